import Derived.Test.YtdohpenfkdckiaaGreatDoorM19
set_option linter.all false
set_option maxRecDepth 100000
set_option maxHeartbeats 20000000
namespace Go.Proofs.YtdohpenfkdckiaaGreatDoor.Gm
open Go.Proofs.Tryz
open Go.RowKit
open Go.ChangeMaps
open Gw (TK Books qH7 qH0 Muts MutC DInv SG qA8 qE1 qI1 DStep qG3 qC6 qI7)
theorem YOk.crowK{base:Nat}{T:Int}{w w':World}{St V:Nat}{y:YG}{L:List Nat}(h:YOk base T w St V y)(hK:Kp L w w')(hA:Apt w L [203,282,80]):w'.ownsRow base 203 1 y.f.cs (qG5 y).length (qF3 (qG5 y)):=
 qI1 h.crow hK (fun k hk hm=>by
  obtain⟨_,c,h2⟩:=qD4 h.crow k (by simp[show y.f.cs.ownBlock=some k from hk]);exact hA k hm _ _ _ h2 (by decide))
theorem YOk.cursK{base:Nat}{T:Int}{w w':World}{St V:Nat}{y y':YG}{L:List Nat}(h:YOk base T w St V y)(hK:Kp L w w')(hA:Apt w L [203,282,80])(ex:y'.f.x=y.f.x)(hc:y.t.ch≤y'.t.ch)(hat:y'.t.over=true∨y.t.ch<y'.t.ch):∀ c∈y.cs,COk base w' y' c:=fun c hm=>by
 have hc':=h.curs c hm;have s1:=hc'.s1;refine⟨hc'.bc,hc'.bC,hK.heap hc'.hc (fun hx=>hA _ hx _ _ _ hc'.hc (by decide)),?_,hc'.s0,by omega,fun _ e1 e2=>?_⟩
 ·rw[ex];exact hK.heap hc'.hC (fun hx=>hA _ hx _ _ _ hc'.hC (by decide))
 ·rcases hat with e|e
  ·rw[e] at e2;cases e2
  ·omega
structure At(base:Nat)(T:Int)(w:World)(g:TG)(q:SG)(i:Nat)(y:YG):Prop where
 ok:TOk base T w g
 T0:0≤T
 T1:T≤40000
 hb:0<base
 hbs:base≤w.heap.size
 g0:w.cell? ⟨0,0,none⟩=some qB5
 e1:g.so=some q
 e2:g.d.x=some ⟨q.Db,0,none⟩
 S:SOk base T w g.d.A g.d.n q g.ys
 Y:∀ y∈g.ys,YOk base T w q.St q.V y
 hi:i<g.ys.length
 hy:g.ys[i]=y
theorem At.y{base:Nat}{T:Int}{w:World}{g:TG}{q:SG}{i:Nat}{y:YG}(h:At base T w g q i y):YOk base T w q.St q.V y:=by
 have:=h.Y _ (List.getElem_mem h.hi);rw[h.hy] at this;exact this
theorem At.n1{base:Nat}{T:Int}{w:World}{g:TG}{q:SG}{i:Nat}{y:YG}(h:At base T w g q i y):g.d.n≤1000:=by
 have:=h.ok.d.n1000;omega
theorem At.live{base:Nat}{T:Int}{w:World}{g:TG}{q:SG}{i:Nat}{y:YG}(h:At base T w g q i y)(ho:y.t.over=false):LiveT (E0 q.V) w y.f.x g.d.A g.d.n y.t q.s y.r:=h.y.liveT h.S ho h.T1 h.n1
theorem At.xS{base:Nat}{T:Int}{w:World}{g:TG}{q:SG}{i:Nat}{y:YG}(h:At base T w g q i y):y.f.x≠q.St:=ω h.y.hx h.S.hSt (by decide)
theorem At.tS{base:Nat}{T:Int}{w:World}{g:TG}{q:SG}{i:Nat}{y:YG}(h:At base T w g q i y):y.tb≠q.St:=ω h.y.hT h.S.hSt (by decide)
theorem At.tx{base:Nat}{T:Int}{w:World}{g:TG}{q:SG}{i:Nat}{y:YG}(h:At base T w g q i y):y.tb≠y.f.x:=ω h.y.hT h.y.hx (by decide)
theorem At.hStt{base:Nat}{T:Int}{w:World}{g:TG}{q:SG}{i:Nat}{y:YG}(h:At base T w g q i y):w.heap[y.t.St]?=some (ν 0 q.s):=by
 rw[h.y.st];exact h.S.hSt
theorem At.prog{base:Nat}{T:Int}{w:World}{g:TG}{q:SG}{i:Nat}{y:YG}(h:At base T w g q i y):ProgS w [q.St,y.f.x]:=fun k hk=>by
 have hb:=h.hb;simp only[List.mem_cons,List.not_mem_nil,or_false] at hk;rcases hk with rfl|rfl
 ·exact⟨by have:=h.S.bSt;omega,fun c t fr e=>by rw[h.S.hSt] at e;cases e;decide⟩
 ·exact⟨by have:=h.y.bX;omega,fun c t fr e=>by rw[h.y.hx] at e;cases e;decide⟩
theorem At.prog1{base:Nat}{T:Int}{w:World}{g:TG}{q:SG}{i:Nat}{y:YG}(h:At base T w g q i y):ProgS w [q.St]:=fun k hk=>h.prog k (by simp at hk;simp[hk])
theorem At.look{base:Nat}{T:Int}{w:World}{g:TG}{q:SG}{i:Nat}{y:YG}(h:At base T w g q i y):LkIn w g.d.B y.tb g.d.A g.d.n g.d.C (.slice none 0 0) g.d.calls g.d.writes (qA8 g.d) y.f y.ps:=
 ⟨h.ok.d.hB,rfl,rfl,h.ok.d.hA,h.y.hT,h.y.sp,by have:=h.y.sz;have:=h.T1;omega,h.g0⟩
theorem At.chg{base:Nat}{T:Int}{w:World}{g:TG}{q:SG}{i:Nat}{y:YG}(h:At base T w g q i y)(tbs:List Nat)(fs:List (TF × Nat)):ChIn w g.d.B y.tb g.d.A g.d.n g.d.C (.slice none 0 0) g.d.calls g.d.writes (qA8 g.d) y.f tbs fs y.ps:=
 have hT:=h.T1
 ⟨h.ok.d.hB,rfl,rfl,h.ok.d.hA,h.y.hT,h.y.sp,by have:=h.y.sz;omega,h.g0,h.y.m0,by have:=h.y.m1;omega,h.y.c0,by have:=h.y.c1;omega,h.y.s0,by have:=h.y.s1;omega⟩
theorem At.tfs{base:Nat}{T:Int}{w:World}{g:TG}{q:SG}{i:Nat}{y:YG}(h:At base T w g q i y):TFs w (qA8 g.d) (qB8 g) (qE9 g.ys):=
 ⟨PRow.of h.ok.row,by simp[qB8,qE9],fun j h1 h2=>by
  have hj:j<g.ys.length:=by simpa [qB8] using h1
  have hyj:=h.Y _ (List.getElem_mem hj);obtain⟨b,c,e⟩:=hyj.sp.form;exact⟨by simpa [qB8,qE9] using hyj.hT,b,c,by simpa [qE9] using e⟩⟩
theorem At.quiet{base:Nat}{T:Int}{w w1 w':World}{g:TG}{q:SG}{i:Nat}{y:YG}(h:At base T w g q i y)(h1:qC6 q w1)(hK:Kp [q.St] w w1)(hK':Kp [] w1 w'):DStep qC1 base (T+2) w w' g:=
 h.ok.quiet h.e1 h.e2 h.S h.Y i h.hi (hK.tr hK') (by simp) (by omega) (hK'.hp h1)
theorem At.changed{base:Nat}{T:Int}{w w':World}{g:TG}{q:SG}{i:Nat}{y:YG}{r':Root}{qs:List KV}(h:At base T w g q i y)(ho:y.t.over=false)(hg:RGood r')(hc:r'.cont=qs)(hl:qs.length≤y.ps.length+1)
  (hd:qU8 y.f y.tb (fun w1=>∃ h',FineT (E0 q.V) w w1 y.f.x y.t q.s r' h') [q.St,y.f.x] qs w w'):DStep qC1 base (T+2) w w' g:=by
 obtain⟨w1,v',⟨h',hF⟩,hK1,hK2,hT',hsp⟩:=hd;have hyy:=h.y;obtain⟨a1,a2,a3,a4⟩:=hyy.live ho;have hKK:Kp [q.St,y.f.x,y.tb] w w':=(hK1.mono (S':=[q.St,y.f.x,y.tb]) (fun k hk _=>by simp at hk ⊢;rcases hk with h | h<;>simp[h])).trans hK2 (fun k hk _=>by simp at hk ⊢;simp[hk]);have hT1:w1.heap[y.tb]?=some (tob y.f):=hK1.heap hyy.hT (by simp;exact⟨h.tS,h.tx⟩);have hx':w'.heap[y.f.x]?=some (χ { y.t with h:=h',ch:=y.t.ch+1 }):=hK2.heap hF.hx (by simp;exact fun e=>h.tx e.symm);have hSt1:w1.heap[q.St]?=some (ν 0 q.s):=by have:=hF.hSt;rw[hyy.st] at this;exact this
 have hSt':w'.heap[q.St]?=some (ν 0 q.s):=hK2.heap hSt1 (by simp;exact fun e=>h.tS e.symm);have hap:∀ Ts:List TypeId,169 ∉ Ts→99 ∉ Ts→197 ∉ Ts→Apt w [q.St,y.f.x,y.tb] Ts:=fun Ts n1 n2 n3 k hk c t fr e=>by
  simp only[List.mem_cons,List.not_mem_nil,or_false] at hk;rcases hk with rfl|rfl|rfl
  ·rw[h.S.hSt] at e;cases e;exact n1
  ·rw[hyy.hx] at e;cases e;exact n2
  ·rw[hyy.hT] at e;cases e;exact n3
 obtain⟨es,mc,hM⟩:=Gen.RM.obj h.S.rm;have hlen:((qs.length:Nat):Int)≤T+1:=by have:=hyy.sz;omega
 have m0:=hyy.m0;have m1:=hyy.m1;have hAc:=hap [203,282,80] (by decide) (by decide) (by decide);refine h.ok.txn h.e1 h.e2 h.S h.Y i h.hi ⟨y.tb,y.f.step v' qs.length,{ y.t with h:=h',ch:=y.t.ch+1 },r',qs,y.cs⟩ q hKK (fun k hk=>?_) (by omega) (by rw[h.hy]) (fun k hk=>by rw[h.hy];exact .inl hk) rfl rfl rfl rfl ?_ ?_
 ·simp only[List.mem_cons,List.not_mem_nil,or_false] at hk;rw[h.hy];rcases hk with h|h|h
  ·exact .inl h
  ·exact .inr (.inr (qE2.2 (.inr (.inl h))))
  ·exact .inr (.inr (qE2.2 (.inl h)))
 ·have c0:=hyy.c0;have c1:=hyy.c1;have s0:=hyy.s0;have s1:=hyy.s1;have d0:=hyy.ch0;have d1:=hyy.ch1;have e0:=hyy.clen;refine⟨hyy.bT,hyy.bX,hT',hx',hyy.st,hsp,by show ((qs.length:Nat):Int)≤T+2;omega,?_,?_,by show 0≤y.f.chg+1;omega,by show y.f.chg+1≤T+2;omega,by show 0≤y.f.stp+1;omega,by show y.f.stp+1≤T+2;omega,hyy.com,hyy.wr,hyy.dn,by show 0≤y.t.ch+1;omega,by show y.t.ch+1≤T+2;omega,by show y.f.stp+1=y.t.ch+1;rw[hyy.stp],hyy.crowK hKK hAc,by show ((y.cs.length:Nat):Int)≤T+2;omega,hyy.cursK hKK hAc rfl (by show y.t.ch≤y.t.ch+1;omega) (.inr (by show y.t.ch<y.t.ch+1;omega)),hyy.cbs,hyy.Cbs,fun _=>⟨a1,?_,hg,hc⟩⟩
  ·show 0≤(if y.f.most<(qs.length:Nat) then ((qs.length:Nat):Int) else y.f.most);split<;>omega
  ·show (if y.f.most<(qs.length:Nat) then ((qs.length:Nat):Int) else y.f.most)≤T+2;split<;>omega
  ·exact hF.rr.keepT hK2 (fun k hk c t fr e=>by simp at hk;subst hk;rw[hT1] at e;cases e;decide)
 ·refine h.S.same hKK (by omega) hSt' (fun hm=>?_) (hap _ (by decide) (by decide) (by decide)) (qO4 kOf h.hi (by rw[h.hy];rfl));simp only[List.mem_cons,List.not_mem_nil,or_false] at hm;rcases hm with e|e|e
  ·exact qG3 h.S.hSt hM e.symm
  ·exact qG3 hyy.hx hM e.symm
  ·exact qG3 hyy.hT hM e.symm
theorem zG2{y:YG}{key val:ByteArray}{full:Bool}(ho:y.t.over=false)(hw:y.f.wr=y.t.wrt)(hd:y.f.dn=y.t.over)(h:qD1 y.f.wr y.f.dn key val≠0):qN1 y.t ⟨key,val⟩ full=some (qD1 y.f.wr y.f.dn key val):=by
 rw[hw,hd,ho] at h ⊢;simp only[qD1,qN1,Bool.false_eq_true,if_false] at h ⊢;split
 ·rfl
 ·split
  ·rfl
  ·split
   ·rfl
   ·rename_i h1 h2 h3;rw[if_neg h1,if_neg h2,if_neg h3] at h;exact absurd rfl h
theorem qU6{y:YG}{key val:ByteArray}(ho:y.t.over=false)(hw:y.f.wr=y.t.wrt)(hd:y.f.dn=y.t.over)(h:qD1 y.f.wr y.f.dn key val=0):y.t.wrt=true∧qF6 key=true∧val.size≤12:=by
 rw[hw,hd,ho] at h;simp only[qD1,Bool.false_eq_true,if_false] at h;split at h
 ·simp at h
 ·split at h
  ·simp at h
  ·split at h
   ·simp at h
   ·rename_i h1 h2 h3;exact⟨by simpa using h1,by simpa using h2,by omega⟩
theorem zR7(base:Nat)(T:Int)(w:World)(g:TG)(q:SG)(i:Nat)(y:YG)(key val:ByteArray)(h:At base T w g q i y):
  Calls prog 132 #[.pointer (some ⟨g.d.B,0,none⟩),.pointer (some ⟨y.tb,0,none⟩),.string key,.string val,.bool false] w fun e w'=>e=.returned (.bool true)∧DStep qC1 base (T+2) w w' g:=by
 have hyy:=h.y;have hbad:∀ j,qD1 y.f.wr y.f.dn key val=j→j≠0→(Calls prog 34 #[.pointer (some ⟨y.f.x,0,none⟩),.string key,.string val] w fun e w'=>∃ v,e=.returned v∧ErrV w' v (some j)∧qC6 q w'∧Kp [q.St] w w')→Calls prog 132 #[.pointer (some ⟨g.d.B,0,none⟩),.pointer (some ⟨y.tb,0,none⟩),.string key,.string val,.bool false] w fun e w'=>e=.returned (.bool true)∧DStep qC1 base (T+2) w w' g:=fun j hj hj0 hc=>
  (zK2 g.d.B y.tb g.d.A g.d.n g.d.C (.slice none 0 0) g.d.calls g.d.writes (qA8 g.d) y.f [] [] y.ps key val j (some j) rfl [q.St] (qC6 q) w (h.chg _ _) h.prog1 hj hj0 hc).mono fun e w' ⟨a,w1,b,c,d⟩=>⟨a,h.quiet b c d⟩
 cases ho:y.t.over with
 | true=>
  refine hbad 5 (by rw[hyy.dn,ho];rfl) (by decide) ((zR8 y.f.x y.t q.s ⟨key,val⟩ w hyy.hx ho h.hStt h.S.po (by rw[hyy.st];exact h.xS)).mono ?_);rintro e w' ⟨v,a,b,c,d⟩;rw[hyy.st] at c d;exact⟨v,a,b,c,d⟩
 | false=>
  have hL:=h.live ho;by_cases hw:qD1 y.f.wr y.f.dn key val=0
  ·obtain⟨f1,f2,f3⟩:=qU6 ho hyy.wr hyy.dn hw;have hok:qE0 ⟨key,val⟩:=⟨((qN8 key).1 f2).1,((qN8 key).1 f2).2,f3⟩;obtain⟨a1,a2,a3,a4⟩:=hyy.live ho;obtain⟨p1,p2⟩:=qL3 a3 hok;have hil:=qL1 ⟨key,val⟩ y.ps;rw[a4] at p2;by_cases hr:((y.r.put ⟨key,val⟩).news:Int)≤(g.d.n:Int)-2-q.s.bl
   ·refine (zK3 g.d.B y.tb g.d.A g.d.n g.d.C (.slice none 0 0) g.d.calls g.d.writes (qA8 g.d) y.f [] [] y.ps key val none rfl [q.St,y.f.x] (fun w1=>∃ h',FineT (E0 q.V) w w1 y.f.x y.t q.s (y.r.put ⟨key,val⟩) h') w (h.chg _ _) h.prog hw ((zR6 (E0 q.V) y.f.x g.d.A g.d.n y.t q.s y.r ⟨key,val⟩ w hL f1 hok hr).mono ?_)).mono fun e w' ⟨a,b⟩=>⟨a,h.changed ho p1 p2 hil b⟩;rintro e w' ⟨rfl,h',hF⟩;have hk:=hF.kp;rw[hyy.st] at hk;exact⟨_,rfl,rfl,⟨h',hF⟩,hk⟩
   ·have hT:=h.T1;have hn:=h.n1;have hsz:=hyy.sz;refine (zK4 g.d.B y.tb g.d.A g.d.n g.d.C (.slice none 0 0) g.d.calls g.d.writes (qA8 g.d) y.f (qB8 g) (qE9 g.ys) y.ps key val (some 3) rfl [q.St] (qC6 q) w (h.chg _ _) h.prog1 hw ((qY1 (E0 q.V) y.f.x g.d.A g.d.n y.t q.s y.r ⟨key,val⟩ 3 w hL ?_).mono ?_) h.tfs ?_ ?_ none 0 0 rfl (by decide) (by show g.d.n≤100000;omega) (by omega) ?_).mono fun e w' ⟨a,w1,b,c,d⟩=>⟨a,h.quiet b c d⟩
    ·have hv:¬12<val.size:=by omega
     simp only[qN1,f1,f2,hv,if_false,Bool.true_eq_false];rw[if_pos (by simp;omega)]
    ·rintro e w' ⟨v,rfl,a,b⟩;obtain⟨b1,b2⟩:=qI7 hyy.st b;exact⟨v,rfl,a,b1,b2⟩
    ·have:=h.ok.ylen;simp[qB8];omega
    ·intro x hx;obtain⟨z,hz,rfl⟩:=List.mem_map.1 hx;have:=(h.Y z hz).sz;simp only;omega
    ·have hst:qE3 (qA8 g.d).com (qE9 g.ys)=0:=zF6 fun x hx=>by
      obtain⟨z,hz,rfl⟩:=List.mem_map.1 hx;show (0:Int)≤z.f.com;rw[(h.Y z hz).com];exact Int.le_refl _
     rw[hst,qQ2];have hnw:=zS0 p1;rw[p2] at hnw;have hbl:=h.S.bl;have:¬(3*(max (max y.f.most ((ins ⟨key,val⟩ y.ps).length:Nat)) ((0:Nat):Int))+12+0≤((qA8 g.d).n:Int)):=by
      show ¬(_≤(g.d.n:Int));omega
     rw[decide_eq_false this];rfl
  ·refine hbad _ rfl hw ((qY1 (E0 q.V) y.f.x g.d.A g.d.n y.t q.s y.r ⟨key,val⟩ _ w hL (zG2 ho hyy.wr hyy.dn hw)).mono ?_);rintro e w' ⟨v,rfl,a,b⟩;obtain⟨b1,b2⟩:=qI7 hyy.st b;exact⟨v,rfl,a,b1,b2⟩
theorem zB4{y:YG}{key:ByteArray}(ho:y.t.over=false)(hw:y.f.wr=y.t.wrt)(hd:y.f.dn=y.t.over)(h:qD1 y.f.wr y.f.dn key ⟨#[]⟩≠0):qP3 y.t key=some (qD1 y.f.wr y.f.dn key ⟨#[]⟩):=by
 rw[hw,hd,ho] at h ⊢;have h0:¬12<(⟨#[]⟩:ByteArray).size:=by decide
 simp only[qD1,qP3,Bool.false_eq_true,if_false,if_neg h0] at h ⊢;split
 ·rfl
 ·split
  ·rfl
  ·rename_i h1 h2;rw[if_neg h1,if_neg h2] at h;exact absurd rfl h
theorem zL3(base:Nat)(T:Int)(w:World)(g:TG)(q:SG)(i:Nat)(y:YG)(key val:ByteArray)(h:At base T w g q i y):
  Calls prog 132 #[.pointer (some ⟨g.d.B,0,none⟩),.pointer (some ⟨y.tb,0,none⟩),.string key,.string val,.bool true] w fun e w'=>e=.returned (.bool true)∧DStep qC1 base (T+2) w w' g:=by
 have hyy:=h.y;have hbad:∀ j,qD1 y.f.wr y.f.dn key ⟨#[]⟩=j→j≠0→(Calls prog 28 #[.pointer (some ⟨y.f.x,0,none⟩),.string key] w fun e w'=>∃ v,e=.returned v∧ErrV w' v (some j)∧qC6 q w'∧Kp [q.St] w w')→Calls prog 132 #[.pointer (some ⟨g.d.B,0,none⟩),.pointer (some ⟨y.tb,0,none⟩),.string key,.string val,.bool true] w fun e w'=>e=.returned (.bool true)∧DStep qC1 base (T+2) w w' g:=fun j hj hj0 hc=>
  (zK0 g.d.B y.tb g.d.A g.d.n g.d.C (.slice none 0 0) g.d.calls g.d.writes (qA8 g.d) y.f [] [] y.ps key val j (some j) rfl [q.St] (qC6 q) w (h.chg _ _) h.prog1 hj hj0 hc).mono fun e w' ⟨a,w1,b,c,d⟩=>⟨a,h.quiet b c d⟩
 cases ho:y.t.over with
 | true=>
  refine hbad 5 (by rw[hyy.dn,ho];rfl) (by decide) ((zL4 y.f.x y.t q.s key w hyy.hx ho h.hStt h.S.po (by rw[hyy.st];exact h.xS)).mono ?_);rintro e w' ⟨v,a,b,c,d⟩;rw[hyy.st] at c d;exact⟨v,a,b,c,d⟩
 | false=>
  have hL:=h.live ho;by_cases hw:qD1 y.f.wr y.f.dn key ⟨#[]⟩=0
  ·obtain⟨f1,f2,f3⟩:=qU6 ho hyy.wr hyy.dn hw;obtain⟨a1,a2,a3,a4⟩:=hyy.live ho;obtain⟨p1,p2⟩:=zL2 (k:=key) a3;have hil:(del key y.ps).length≤y.ps.length+1:=Nat.le_succ_of_le (List.length_filter_le _ _);rw[a4] at p2;refine (zK1 g.d.B y.tb g.d.A g.d.n g.d.C (.slice none 0 0) g.d.calls g.d.writes (qA8 g.d) y.f [] [] y.ps key val none rfl [q.St,y.f.x] (fun w1=>∃ h',FineT (E0 q.V) w w1 y.f.x y.t q.s (y.r.del key) h') w (h.chg _ _) h.prog hw ((zL1 (E0 q.V) y.f.x g.d.A g.d.n y.t q.s y.r key w hL f1 f2).mono ?_)).mono fun e w' ⟨a,b⟩=>⟨a,h.changed ho p1 p2 hil b⟩;rintro e w' ⟨rfl,h',hF⟩;have hk:=hF.kp;rw[hyy.st] at hk;exact⟨_,rfl,rfl,⟨h',hF⟩,hk⟩
  ·refine hbad _ rfl hw ((zL0 (E0 q.V) y.f.x g.d.A g.d.n y.t q.s y.r key _ w hL (zB4 ho hyy.wr hyy.dn hw)).mono ?_);rintro e w' ⟨v,rfl,a,b⟩;obtain⟨b1,b2⟩:=qI7 hyy.st b;exact⟨v,rfl,a,b1,b2⟩
theorem qT0(base:Nat)(T:Int)(w:World)(g:TG)(q:SG)(i:Nat)(y:YG)(key:ByteArray)(h:At base T w g q i y):
  Calls prog 133 #[.pointer (some ⟨g.d.B,0,none⟩),.pointer (some ⟨y.tb,0,none⟩),.string key] w fun e w'=>e=.returned (.bool true)∧DStep qC1 base (T+2) w w' g:=by
 have hyy:=h.y;have hq:∀ w',qP0 (qC6 q) [q.St] w w'→DStep qC1 base (T+2) w w' g:=fun w' ⟨w1,b,c,d⟩=>h.quiet b c d
 cases ho:y.t.over with
 | true=>
  refine (zN0 g.d.B y.tb g.d.A g.d.n g.d.C (.slice none 0 0) g.d.calls g.d.writes (qA8 g.d) y.f y.ps key (qI8 y.ps key) (qF6 key) (qD5 y.ps key).isSome 5 (some 5) rfl [q.St] (qC6 q) w h.look h.prog1 rfl (.inl ⟨by rw[hyy.dn,ho],rfl⟩) rfl ((jG2 y.f.x y.t q.s key w hyy.hx ho h.hStt h.S.po (by rw[hyy.st];exact h.xS)).mono ?_)).mono fun e w' ⟨a,b⟩=>⟨a,hq w' b⟩;rintro e w' ⟨v,a,b,c,d⟩;rw[hyy.st] at c d;exact⟨v,a,b,c,d⟩
 | false=>
  have hL:=h.live ho;obtain⟨a1,a2,a3,a4⟩:=hyy.live ho
  cases hk:qF6 key with
  | true=>
   refine (xM1 g.d.B y.tb g.d.A g.d.n g.d.C (.slice none 0 0) g.d.calls g.d.writes (qA8 g.d) y.f y.ps key (qI8 y.ps key) (qD5 y.ps key).isSome none rfl [q.St] (qC6 q) w h.look h.prog1 hk (by rw[hyy.dn,ho]) rfl ((jG0 (E0 q.V) y.f.x g.d.A g.d.n y.t q.s y.r key w hL hk).mono ?_)).mono fun e w' ⟨a,b⟩=>⟨a,hq w' b⟩;rintro e w' ⟨rfl,b⟩;obtain⟨b1,b2⟩:=qI7 hyy.st b;rw[a4];exact⟨_,rfl,rfl,b1,b2⟩
  | false=>
   refine (zN0 g.d.B y.tb g.d.A g.d.n g.d.C (.slice none 0 0) g.d.calls g.d.writes (qA8 g.d) y.f y.ps key (qI8 y.ps key) false (qD5 y.ps key).isSome 1 (some 1) rfl [q.St] (qC6 q) w h.look h.prog1 hk (.inr ⟨by rw[hyy.dn,ho],rfl,rfl⟩) rfl ((jG1 (E0 q.V) y.f.x g.d.A g.d.n y.t q.s y.r key w hL hk).mono ?_)).mono fun e w' ⟨a,b⟩=>⟨a,hq w' b⟩;rintro e w' ⟨v,rfl,a,b⟩;obtain⟨b1,b2⟩:=qI7 hyy.st b;exact⟨v,rfl,a,b1,b2⟩
theorem zW5{base:Nat}{T:Int}{w w':World}{g:TG}{q:SG}{i:Nat}{y:YG}(h:At base T w g q i y)(ho:y.t.over=false)
  (hd:zG9 y.f y.tb (fun w1=>w1.heap[y.f.x]?=some (χ y.t.ended)∧w1.heap[q.St]?=some (ν 0 (q.s.left y.t.nr))∧RM w1 q.V q.M q.nM (q.D.del (qC8 y.t.nr))) [q.St,y.f.x,q.M] w w'):DStep qC1 base (T+2) w w' g:=by
 obtain⟨w1,⟨r1,r2,r3⟩,hK1,hK2,hT'⟩:=hd;have hyy:=h.y;obtain⟨es,mc,hM⟩:=Gen.RM.obj h.S.rm;have hM':q.M≠y.tb:=fun e=>qG3 hyy.hT hM e.symm;have hKK:Kp [q.St,y.f.x,q.M,y.tb] w w':=(hK1.mono (S':=[q.St,y.f.x,q.M,y.tb]) (fun k hk _=>by simp at hk ⊢;rcases hk with h | h | h<;>simp[h])).trans hK2 (fun k hk _=>by simp at hk ⊢;simp[hk]);have hx':=hK2.heap r1 (by simp;exact fun e=>h.tx e.symm);have hSt':=hK2.heap r2 (by simp;exact fun e=>h.tS e.symm);have hR':=r3.kp hK2 (by simp;exact hM');have hap:∀ Ts:List TypeId,169 ∉ Ts→99 ∉ Ts→197 ∉ Ts→Apt w [q.St,y.f.x,q.M,y.tb] Ts:=fun Ts n1 n2 n3 k hk c t fr e=>by
  simp only[List.mem_cons,List.not_mem_nil,or_false] at hk;rcases hk with rfl|rfl|rfl|rfl
  ·rw[h.S.hSt] at e;cases e;exact n1
  ·rw[hyy.hx] at e;cases e;exact n2
  ·rw[hM] at e;cases e
  ·rw[hyy.hT] at e;cases e;exact n3
 have hap2:=hap [102,263] (by decide) (by decide) (by decide);have hki:(g.ys.map kOf)[i]?=some (kOf y):=by simp[h.hi,h.hy]
 have hbk:=h.S.bk.left (World.ownsMap.tidy h.S.rm qW8) hki ho;have hAc:=hap [203,282,80] (by decide) (by decide) (by decide);refine h.ok.txn h.e1 h.e2 h.S h.Y i h.hi ⟨y.tb,{ y.f with dn:=true },y.t.ended,y.r,y.ps,y.cs⟩ { q with s:=q.s.left y.t.nr,D:=q.D.del (qC8 y.t.nr) } hKK (fun k hk=>?_) (by omega) (by rw[h.hy]) (fun k hk=>by rw[h.hy];exact .inl hk) rfl rfl rfl rfl ?_ ?_
 ·simp only[List.mem_cons,List.not_mem_nil,or_false] at hk;rw[h.hy];rcases hk with h|h|h|h
  ·exact .inl h
  ·exact .inr (.inr (qE2.2 (.inr (.inl h))))
  ·exact .inr (.inl h)
  ·exact .inr (.inr (qE2.2 (.inl h)))
 ·exact⟨hyy.bT,hyy.bX,hT',hx',hyy.st,hyy.sp.keep hKK (hap _ (by decide) (by decide) (by decide)),by have:=hyy.sz;show ((y.ps.length:Nat):Int)≤T+2;omega,hyy.m0,by have:=hyy.m1;show y.f.most≤T+2;omega,hyy.c0,by have:=hyy.c1;show y.f.chg≤T+2;omega,hyy.s0,by have:=hyy.s1;show y.f.stp≤T+2;omega,hyy.com,hyy.wr,rfl,hyy.ch0,by have:=hyy.ch1;show y.t.ch≤T+2;omega,hyy.stp,hyy.crowK hKK hAc,by have:=hyy.clen;show ((y.cs.length:Nat):Int)≤T+2;omega,hyy.cursK hKK hAc rfl (Int.le_refl _) (.inl rfl),hyy.cbs,hyy.Cbs,fun hc=>by cases hc⟩
 ·refine⟨h.S.bSt,h.S.bM,hKK.heap h.S.hD (fun hm=>hap2 _ hm _ _ _ h.S.hD (by simp)),hSt',hKK.heap h.S.hV (fun hm=>hap2 _ hm _ _ _ h.S.hV (by simp)),h.S.sV,h.S.sM,h.S.po,h.S.rb,h.S.rs,h.S.bl,h.S.bg0,by have:=h.S.bg1;show q.s.bg≤T+2;omega,hR',by have:=h.S.nM;show ((q.nM:Nat):Int)≤T+2;omega,?_⟩;rw[List.map_set];exact hbk
theorem zW4(base:Nat)(T:Int)(w:World)(g:TG)(q:SG)(i:Nat)(y:YG)(h:At base T w g q i y):
  Calls prog 135 #[.pointer (some ⟨g.d.B,0,none⟩),.pointer (some ⟨y.tb,0,none⟩),.bool false] w fun e w'=>e=.returned (.bool true)∧DStep qC1 base (T+2) w w' g:=by
 have hyy:=h.y;obtain⟨es,mc,hM⟩:=Gen.RM.obj h.S.rm
 cases ho:y.t.over with
 | true=>
  refine (xG8 g.d.B y.tb g.d.A g.d.n g.d.C (.slice none 0 0) g.d.calls g.d.writes (qA8 g.d) y.f y.ps (some 5) rfl [q.St] (qC6 q) w h.look h.prog1 (by simp;exact ω h.ok.d.hA h.S.hSt (by decide)) (by rw[hyy.dn,ho]) ((zW6 y.f.x y.t q.s w hyy.hx ho h.hStt h.S.po (by rw[hyy.st];exact h.xS)).mono ?_)).mono fun e w' ⟨a,w1,b,c,d⟩=>⟨a,h.quiet b c d⟩;rintro e w' ⟨v,a,b,c,d⟩;rw[hyy.st] at c d;exact⟨v,a,b,c,d⟩
 | false=>
  have hki:(g.ys.map kOf)[i]?=some (kOf y):=by simp[h.hi,h.hy]
  have hnr:=h.S.bk.nrs i (kOf y) hki;have hbg:=h.S.bg1;have hT:=h.T1;have hnr0:1≤y.t.nr:=hnr.1;have hnr1:y.t.nr≤q.s.bg:=hnr.2;have hsM:=h.S.sM;have hsV:=h.S.sV;have hMS:q.M≠q.St:=fun e=>qG3 h.S.hSt hM e.symm;have hP:ProgS w [q.St,y.f.x,q.M]:=fun k hk=>by
   simp only[List.mem_cons,List.not_mem_nil,or_false] at hk;rcases hk with rfl|rfl|rfl
   ·exact h.prog _ (by simp)
   ·exact h.prog _ (by simp)
   ·exact⟨by have:=h.S.bM;have:=h.hb;omega,fun c t fr e=>by rw[hM] at e;cases e⟩
  have hrm:=h.S.rm;refine (xG9 g.d.B y.tb g.d.A g.d.n g.d.C (.slice none 0 0) g.d.calls g.d.writes (qA8 g.d) y.f y.ps none rfl [q.St,y.f.x,q.M] (fun w1=>w1.heap[y.f.x]?=some (χ y.t.ended)∧w1.heap[q.St]?=some (ν 0 (q.s.left y.t.nr))∧RM w1 q.V q.M q.nM (q.D.del (qC8 y.t.nr))) w h.look hP ?_ (by rw[hyy.dn,ho]) ((zH3 y.f.x q.nM y.t q.s q.D w hyy.hx ho h.hStt h.S.po (by rw[hsV,hsM];exact hrm) (by omega) (by omega) (by rw[hsM,hyy.st];exact hMS) (by rw[hyy.st];exact h.xS) (by rw[hsM];exact qG3 hyy.hx hM) (by rw[hsM];exact ζ hM)).mono ?_)).mono fun e w' ⟨a,b⟩=>⟨a,zW5 h ho b⟩
  ·simp only[List.mem_cons,List.not_mem_nil,or_false,not_or];exact⟨ω h.ok.d.hA h.S.hSt (by decide),ω h.ok.d.hA hyy.hx (by decide),qG3 h.ok.d.hA hM⟩
  ·rintro e w' ⟨rfl,a,b,c,d⟩;rw[hyy.st] at b d;rw[hsV,hsM] at c;rw[hsM] at d;exact⟨_,rfl,rfl,⟨a,b,c⟩,d⟩
end Go.Proofs.YtdohpenfkdckiaaGreatDoor.Gm
namespace Go.Proofs.YtdohpenfkdckiaaGreatDoor.Gm
open Go.Proofs.Tryz
open Go.RowKit
open Go.ChangeMaps
open Gw (TK Books qH7 qH0 Muts MutC DInv SG qA8 qE1 qI1 DStep qG3)
theorem xJ7(base:Nat)(T:Int)(w:World)(g:TG)(h:TOk base T w g)(hT0:0≤T)(hT:T≤40000)(hb:0<base)(hbs:base≤w.heap.size)(hg:w.cell? ⟨0,0,none⟩=some qB5):
  Calls prog 80 #[.pointer (some ⟨g.d.B,0,none⟩)] w fun e w'=>e=.returned (.bool true)∧DStep qC1 base (T+2) w w' g:=by
 refine (Gen.xK8 base T w g.d h.d hT0 (by omega) hg hb hbs).mono ?_;rintro e w' ⟨rfl,⟨d',hd,e1,e2,e3,e4,e5,e6,e7,e8⟩,hK⟩;refine⟨rfl,⟨d',none,[],g.hs⟩,[g.d.B,g.d.A,g.d.C],?_,e1,fun k hk=>?_,hK,fun k hk=>qB4.2 (.inl (by simpa using hk))⟩
 ·have hMut:Muts base [130,114,115] w [g.d.B,g.d.A,g.d.C]:=fun k hk=>by
   simp only[List.mem_cons,List.not_mem_nil,or_false] at hk;rcases hk with rfl|rfl|rfl
   ·exact⟨h.d.bB,_,h.d.hB,fun c t fr e=>by cases e;decide⟩
   ·exact⟨h.d.bA,_,h.d.hA,fun c t fr e=>by cases e;decide⟩
   ·exact⟨h.d.bC,_,h.d.hC,fun c t fr e=>by cases e;decide⟩
  refine⟨Gw.DOk.kp hd (Kp.refl [] _) (by omega) (by simp) (by simp) (by simp) (Apt.nil _ _),Gw.Held.cast (Gw.Held.kp h.held hK (fun k hk=>?_) (fun k hk=>?_) (hMut.apt (by decide))) e7 e8,by have:=h.hlen;show ((g.hs.length:Nat):Int)≤T+2;omega,fun x hx=>by have:=h.hps x hx;omega,?_,by show ((0:Nat):Int)≤T+2;omega,.inl ⟨e5,rfl,rfl⟩,List.Pairwise.nil⟩
  ·obtain⟨_,c,h2⟩:=qD4 h.held.li k (by simp[show (qA8 g.d).li.ownBlock=some k from hk]);exact hMut.not h2 (by decide)
  ·obtain⟨_,c,h2⟩:=qD4 h.held.wa k (by simp[show (qA8 g.d).wa.ownBlock=some k from hk]);exact hMut.not h2 (by decide)
  ·show w'.ownsRow base 132 1 d'.ts 0 [];rw[e6];exact World.ownsRow_nil _ _ _ _
 ·rcases qB4.1 hk with hk|hk|hk|hk|hk|hk
  ·rw[e1,e2,e3] at hk;exact .inl (qB4.2 (.inl hk))
  ·rw[show d'.ts=.slice none 0 0 from e6] at hk;cases hk
  ·rw[show d'.li=g.d.li from e7] at hk;exact .inl (qB4.2 (.inr (.inr (.inl hk))))
  ·rw[show d'.wa=g.d.wa from e8] at hk;exact .inl (qB4.2 (.inr (.inr (.inr (.inl hk)))))
  ·cases hk
  ·obtain⟨_,hy,_⟩:=hk;cases hy
theorem xZ8(base:Nat)(T:Int)(w:World)(g:TG)(h:TOk base T w g)(hT0:0≤T)(hT:T≤40000)(hb:0<base)(hbs:base≤w.heap.size)(hg:w.cell? ⟨0,0,none⟩=some qB5):
  Calls prog 81 #[.pointer (some ⟨g.d.B,0,none⟩)] w fun e w'=>e=.returned (.bool true)∧DStep qC1 base (T+2) w w' g:=by
 refine (Gen.xZ7 base T w g.d h.d hT0 (by omega) hg hb hbs).mono ?_;rintro e w' ⟨rfl,⟨d',hd,e1,e2,e3,e4,e6,e7,e8,hop⟩,hK⟩;have hMut:Muts base [130,114,115] w [g.d.B,g.d.A,g.d.C]:=fun k hk=>by
  simp only[List.mem_cons,List.not_mem_nil,or_false] at hk;rcases hk with rfl|rfl|rfl
  ·exact⟨h.d.bB,_,h.d.hB,fun c t fr e=>by cases e;decide⟩
  ·exact⟨h.d.bA,_,h.d.hA,fun c t fr e=>by cases e;decide⟩
  ·exact⟨h.d.bC,_,h.d.hC,fun c t fr e=>by cases e;decide⟩
 have hheld:Held w' base (qA8 d') g.hs:=Gw.Held.cast (Gw.Held.kp h.held hK (fun k hk=>by
  obtain⟨_,c,h2⟩:=qD4 h.held.li k (by simp[show (qA8 g.d).li.ownBlock=some k from hk]);exact hMut.not h2 (by decide)) (fun k hk=>by
  obtain⟨_,c,h2⟩:=qD4 h.held.wa k (by simp[show (qA8 g.d).wa.ownBlock=some k from hk]);exact hMut.not h2 (by decide)) (hMut.apt (by decide))) e7 e8
 have hrow:w'.ownsRow base 132 1 d'.ts 0 []:=by
  rw[e6];exact World.ownsRow_nil _ _ _ _
 have hlen:=h.hlen;have hmut:∀ so k,(∀ k∈qE1 so,w.heap.size≤k)→k∈qI4 ⟨d',so,[],g.hs⟩→k∈qI4 g∨w.heap.size≤k:=fun so k hso hk=>by
  rcases qB4.1 hk with hk|hk|hk|hk|hk|hk
  ·rw[e1,e2,e3] at hk;exact .inl (qB4.2 (.inl hk))
  ·rw[show d'.ts=.slice none 0 0 from e6] at hk;cases hk
  ·rw[show d'.li=g.d.li from e7] at hk;exact .inl (qB4.2 (.inr (.inr (.inl hk))))
  ·rw[show d'.wa=g.d.wa from e8] at hk;exact .inl (qB4.2 (.inr (.inr (.inr (.inl hk)))))
  ·exact .inr (hso k hk)
  ·obtain⟨_,hy,_⟩:=hk;cases hy
 rcases hop with hx|⟨Db,St,V,M,N,hx,hst,l1,l2,l3,l4⟩
 ·refine⟨rfl,⟨d',none,[],g.hs⟩,[g.d.B,g.d.A,g.d.C],?_,e1,fun k hk=>hmut none k (by simp[qE1]) hk,hK,fun k hk=>qB4.2 (.inl (by simpa using hk))⟩;exact⟨hd,hheld,by show ((g.hs.length:Nat):Int)≤T+2;omega,fun x hx=>by have:=h.hps x hx;omega,hrow,by show ((0:Nat):Int)≤T+2;omega,.inl ⟨hx,rfl,rfl⟩,List.Pairwise.nil⟩
 ·obtain⟨h1,h2,h3,D,h4,h5,h6⟩:=hst;refine⟨rfl,⟨d',some ⟨Db,St,V,M,1,(qK6 V M N).read.left 1,D⟩,[],g.hs⟩,[g.d.B,g.d.A,g.d.C],?_,e1,fun k hk=>hmut _ k (by simp[qE1];omega) hk,hK,fun k hk=>qB4.2 (.inl (by simpa using hk))⟩;refine⟨hd,hheld,by show ((g.hs.length:Nat):Int)≤T+2;omega,fun x hx=>by have:=h.hps x hx;omega,hrow,by show ((0:Nat):Int)≤T+2;omega,.inr ⟨_,rfl,hx,?_,fun y hy=>by cases hy⟩,List.Pairwise.nil⟩;exact⟨by show base≤St;omega,by show base≤M;omega,h1,h2,h3,rfl,rfl,rfl,rfl,rfl,rfl,by show (0:Int)≤0+1;decide,by show (0:Int)+1≤T+2;omega,h4,by show ((1:Nat):Int)≤T+2;omega,Books.none h5 h6 rfl⟩
theorem xQ7(base:Nat)(T:Int)(w:World)(g:TG)(h:TOk base T w g)(hT0:0≤T)(hT:T≤50000):
  Calls prog 84 #[.pointer (some ⟨g.d.B,0,none⟩)] w fun e w'=>e=.returned (.bool true)∧Kp [] w w':=
 xQ8 g.d.B base (qA8 g.d) g.hs w h.d.hB h.held (by have:=h.hlen;omega) (fun x hx=>by have:=h.hps x hx;omega)
theorem zA5(wr:Bool){base:Nat}{T:Int}{w:World}{St V:Nat}:∀ ys:List YG,(∀ y∈ys,YOk base T w St V y)→qD0 wr (qE9 ys)=Gw.cnt wr (ys.map kOf)
 | [],_=>rfl
 | y::ys,h=>by
  have ih:=zA5 wr ys (fun z hz=>h z (List.mem_cons_of_mem _ hz));have hy:=h y (by simp);rw[Gw.cnt] at ih ⊢;simp only[qE9,List.map_cons,qD0,List.countP_cons];rw[show ys.map (fun y=>(y.f,y.ps.length))=qE9 ys from rfl,ih];have e1:=hy.dn;have e2:=hy.wr;rw[e1,e2];by_cases h1:y.t.over=false∧y.t.wrt=wr
  ·rw[if_pos h1,if_pos (show (!(kOf y).over && (kOf y).wrt == wr)=true by simp[kOf,h1.1,h1.2])];omega
  ·rw[if_neg h1,if_neg (show ¬(!(kOf y).over && (kOf y).wrt == wr)=true from fun hh=>h1 (by simpa [kOf] using hh))];omega
theorem TOk.born{base:Nat}{T:Int}{w w':World}{g:TG}{q q':SG}{wrt:Bool}{nr:Int}(h:TOk base T w g)(hb:0<base)(hbs:base≤w.heap.size)(hT0:0≤T)(e1:g.so=some q)(e2:g.d.x=some ⟨q.Db,0,none⟩)(hS:SOk base T w g.d.A g.d.n q g.ys)(hY:∀ y∈g.ys,YOk base T w q.St q.V y)
  (eSt:q'.St=q.St) (eM:q'.M=q.M) (eV:q'.V=q.V) (eD:q'.Db=q.Db) (eN:q'.nM≤q.nM+1) (es1:q'.s.V=q.s.V) (es2:q'.s.M=q.s.M) (es3:q'.s.po=false) (es4:q'.s.rb=q.s.rb) (es5:q'.s.rs=q.s.rs) (es6:q'.s.bl=q.s.bl) (es7:q'.s.bg=q.s.bg+1) (hbk:Books q'.s q'.D (g.ys.map kOf++[⟨false,wrt,nr⟩]))
  (hd:zG6 (qA8 g.d) g.d.B base 0 wrt (qB8 g) (fun xo w1=>∃ x,xo=some ⟨x,0,none⟩∧w.heap.size≤x∧w1.heap[x]?=some (χ ⟨q.St,nr,wrt,false,some ⟨q.V,0,none⟩,⟨⟨#[]⟩,0,0,none⟩,0⟩)∧w1.heap[q.St]?=some (ν 0 q'.s)∧RM w1 q.V q.M q'.nM q'.D) [q.St,q.M] w w'):DStep qC1 base (T+2) w w' g:=by
 obtain⟨w1,x,tb,v',L,⟨x2,hxe,hx1,hx2,hSt1,hRM1⟩,hK1,htb,hT',hB',hrow',hK2,hL,hown⟩:=hd;cases hxe;obtain⟨es,mc,hM⟩:=Gen.RM.obj hS.rm;obtain⟨es',mc',hM1⟩:=Gen.RM.obj hRM1;have hs1:=hK1.size;have rowT:∀ k,g.d.ts.ownBlock=some k→base≤k∧∃ c,w.heap[k]?=some (.cells c 132):=fun k hk=>qD4 h.row k (by simp[hk]);have hBn:g.d.B ∉ [q.St,q.M]:=by
  simp only[List.mem_cons,List.not_mem_nil,or_false,not_or];exact⟨ω h.d.hB hS.hSt (by decide),qG3 h.d.hB hM⟩
 have rowT1:∀ k,g.d.ts.ownBlock=some k→∃ c,w1.heap[k]?=some (.cells c 132):=fun k hk=>by
  obtain⟨_,c,h2⟩:=rowT k hk;refine⟨c,hK1.heap h2 ?_⟩;simp only[List.mem_cons,List.not_mem_nil,or_false,not_or];exact⟨ω h2 hS.hSt (by decide),qG3 h2 hM⟩
 have hB1:=hK1.heap h.d.hB hBn;have hL1:∀ {k:Nat} {c:Array Value} {t:TypeId} {fr:Nat × Nat},w1.heap[k]?=some (.cells c t fr)→t≠130→t≠132→k ∉ L:=fun hk n1 n2 hm=>by
  rcases hL _ hm with rfl|e
  ·exact ω hk hB1 n1 rfl
  ·obtain⟨c,h2⟩:=rowT1 _ e;exact ω hk h2 n2 rfl
 have hML:q.M ∉ L:=fun hm=>by
  rcases hL _ hm with e|e
  ·rw[e,hB1] at hM1;cases hM1
  ·obtain⟨c,h2⟩:=rowT1 _ e;rw[hM1] at h2;cases h2
 have hKK:Kp (q.St::q.M::L) w w':=(hK1.mono (S':=q.St::q.M::L) (fun k hk _=>by simp at hk ⊢;rcases hk with h | h<;>simp[h])).trans hK2 (fun k hk _=>by simp[hk]);have hMut:Muts base [169,130,132] w (q.St::q.M::L):=fun k hk=>by
  simp only[List.mem_cons] at hk;rcases hk with rfl|rfl|hk
  ·exact⟨hS.bSt,_,hS.hSt,fun c t fr e=>by cases e;decide⟩
  ·exact⟨hS.bM,_,hM,fun c t fr e=>by cases e⟩
  ·rcases hL k hk with rfl|hk
   ·exact⟨h.d.bB,_,h.d.hB,fun c t fr e=>by cases e;decide⟩
   ·obtain⟨h1,c,h2⟩:=rowT k hk;exact⟨h1,_,h2,fun c t fr e=>by cases e;decide⟩
 have hx':=hK2.heap hx2 (hL1 hx2 (by decide) (by decide));have hSt':=hK2.heap hSt1 (hL1 hSt1 (by decide) (by decide));have hRM':=hRM1.kp hK2 hML;have hd:=h.d;have hd':Gen.DOk base (T+2) w' { g.d with ts:=v' }:=by
  have hS':∀ k c t fr,w.heap[k]?=some (.cells c t fr)→k∈q.St::q.M::L→t≠126:=fun k c t fr e hk et=>(hMut.apt (Us:=[126]) (by decide)) k hk c t fr e (by simp[et]);exact⟨hd.bB,hd.bA,hd.bC,hB',hKK.heap hd.hA (hMut.not hd.hA (by decide)),hKK.heap hd.hC (hMut.not hd.hC (by decide)),hd.len,hd.n1000,hd.calls0,by have:=hd.calls1;show g.d.calls≤6*(T+2);omega,hd.writes0,by have:=hd.writes1;show g.d.writes≤2*(T+2);omega,by have:=hd.k1;show ((g.d.k:Nat):Int)≤T+2;omega,hd.may.kp hKK hS',hd.were.kp hKK hS',by
   rcases hd.st with h|⟨h1,h2,h3⟩
   ·exact .inl h
   ·exact .inr ⟨h1,by show g.d.N≤2*(T+2);omega,h3⟩⟩
 have hbg:=hS.bg0;have hbg1:=hS.bg1;have hnM:=hS.nM;have hlen:=h.hlen;have hyl:=h.ylen;have hnew:∀ k,k∈qI6 ⟨tb,TF.born (qA8 g.d) x 0 wrt,⟨q.St,nr,wrt,false,some ⟨q.V,0,none⟩,⟨⟨#[]⟩,0,0,none⟩,0⟩,.none,[],[]⟩→w.heap.size≤k:=fun k hk=>by
  rcases qE2.1 hk with e|e|hk|hk|hk
  ·rw[e];show w.heap.size≤tb;omega
  ·rw[e];exact hx1
  ·cases hk
  ·cases hk
  ·cases hk
 refine⟨{ g with d:={ g.d with ts:=v' },so:=some q',ys:=g.ys++[⟨tb,TF.born (qA8 g.d) x 0 wrt,⟨q.St,nr,wrt,false,some ⟨q.V,0,none⟩,⟨⟨#[]⟩,0,0,none⟩,0⟩,.none,[],[]⟩] },q.St::q.M::L,?_,rfl,fun k hk=>?_,hKK,fun k hk=>?_⟩
 ·refine⟨hd',Gw.Held.cast (Gw.Held.kp h.held hKK (fun k hk=>?_) (fun k hk=>?_) (hMut.apt (by decide))) rfl rfl,by show ((g.hs.length:Nat):Int)≤T+2;omega,fun z hz=>by have:=h.hps z hz;omega,?_,by show (((g.ys++[_]).length:Nat):Int)≤T+2;simp;omega,.inr ⟨q',rfl,by show g.d.x=_;rw[eD];exact e2,?_,fun z hz=>?_⟩,?_⟩
  ·obtain⟨_,c,h2⟩:=qD4 h.held.li k (by simp[show (qA8 g.d).li.ownBlock=some k from hk]);exact hMut.not h2 (by decide)
  ·obtain⟨_,c,h2⟩:=qD4 h.held.wa k (by simp[show (qA8 g.d).wa.ownBlock=some k from hk]);exact hMut.not h2 (by decide)
  ·have e:qB8 { g with d:={ g.d with ts:=v' },so:=some q',ys:=g.ys++[⟨tb,TF.born (qA8 g.d) x 0 wrt,⟨q.St,nr,wrt,false,some ⟨q.V,0,none⟩,⟨⟨#[]⟩,0,0,none⟩,0⟩,.none,[],[]⟩] }=qB8 g++[tb]:=by simp[qB8]
   rw[e,List.length_append];exact hrow'
  ·refine⟨by rw[eSt];exact hS.bSt,by rw[eM];exact hS.bM,?_,by rw[eSt];exact hSt',?_,by rw[es1,eV];exact hS.sV,by rw[es2,eM];exact hS.sM,es3,by rw[es4];exact hS.rb,by rw[es5];exact hS.rs,by rw[es6];exact hS.bl,by omega,by omega,by rw[eV,eM];exact hRM',by omega,?_⟩
   ·rw[eD,eSt];exact hKK.heap hS.hD (hMut.not hS.hD (by decide))
   ·rw[eV];exact hKK.heap hS.hV (hMut.not hS.hV (by decide))
   ·rw[List.map_append];exact hbk
  ·rw[eSt,eV];rcases List.mem_append.1 hz with hz|hz
   ·have hz':=hY z hz;refine hz'.kp hKK (by omega) (fun k hk hm=>?_) (hMut.apt (by decide));obtain⟨_,c,t,fr,b2,b3⟩:=hz'.yMut k hk;exact (hMut.apt (Us:=yTs) (by decide)) k hm _ _ _ b2 b3
   ·rw[List.mem_singleton.1 hz];refine⟨by show base≤tb;omega,by show base≤x;omega,hT',hx',rfl,SPR.nil _,by show ((0:Nat):Int)≤T+2;omega,by show (0:Int)≤((0:Nat):Int);simp,by show ((0:Nat):Int)≤T+2;omega,by show (0:Int)≤0;simp,by show (0:Int)≤T+2;omega,by show (0:Int)≤0;simp,by show (0:Int)≤T+2;omega,rfl,rfl,rfl,by show (0:Int)≤0;simp,by show (0:Int)≤T+2;omega,rfl,World.ownsRow_nil _ _ _ _,by show ((0:Nat):Int)≤T+2;omega,fun c hc=>(by cases hc),List.nodup_nil,List.nodup_nil,fun _=>⟨rfl,?_,Gen.RGood.none,rfl⟩⟩;exact rfl
  ·show (g.ys++[_]).Pairwise _;rw[List.pairwise_append];refine⟨h.sep,by simp,fun a ha b hb' k hk hk'=>?_⟩;rw[List.mem_singleton.1 hb'] at hk';have h1:=(hY a ha).yMut.muts.lt hk;have h2:=hnew k hk';omega
 ·rcases qB4.1 hk with hk|hk|hk|hk|hk|hk
  ·exact .inl (qB4.2 (.inl hk))
  ·rcases hown k hk with hk|hk
   ·exact .inl (qB4.2 (.inr (.inl hk)))
   ·exact .inr (by omega)
  ·exact .inl (qB4.2 (.inr (.inr (.inl hk))))
  ·exact .inl (qB4.2 (.inr (.inr (.inr (.inl hk)))))
  ·refine .inl (qB4.2 (.inr (.inr (.inr (.inr (.inl ?_))))));rw[e1];simp only[qE1,eSt,eM] at hk ⊢;exact hk
  ·obtain⟨z,hz,hk⟩:=hk;rcases List.mem_append.1 hz with hz|hz
   ·exact .inl (qB4.2 (.inr (.inr (.inr (.inr (.inr ⟨z,hz,hk⟩))))))
   ·rw[List.mem_singleton.1 hz] at hk;exact .inr (hnew k hk)
 ·refine qB4.2 ?_;simp only[List.mem_cons] at hk;rcases hk with rfl|rfl|hk
  ·exact .inr (.inr (.inr (.inr (.inl (by rw[e1];simp[qE1])))))
  ·exact .inr (.inr (.inr (.inr (.inl (by rw[e1];simp[qE1])))))
  ·rcases hL k hk with rfl|hk
   ·exact .inl (.inl rfl)
   ·exact .inr (.inl hk)
end Go.Proofs.YtdohpenfkdckiaaGreatDoor.Gm
namespace Go.Proofs.YtdohpenfkdckiaaGreatDoor
open Go.Proofs.Tryz
open Go.RowKit
theorem qQ9{p:ByteArray}(h:1≤p.size):p.toList.isEmpty=false:=by
 rw[ByteArray.toList_eq]
 cases h2:p.data.toList with
 | nil=>
  have h3:p.data.toList.length=0:=by rw[h2];rfl
  have h4:p.size=p.data.toList.length:=Array.length_toList.symm;omega
 | cons a l=>rfl
theorem ProgS.more{w w':World}{S:List Nat}(h:ProgS w S)(hK:Kp [] w w')(hlt:∀ k∈S,k<w.heap.size):ProgS w' S:=fun k hk=>⟨(h k hk).1,fun c t fr e=>(h k hk).2 c t fr (by
 have:=hK.block k (hlt k hk) (by simp);rw[←this];exact e)⟩
def qQ4(cb Cb:Nat)(key:ByteArray)(on:Bool)(stp:Int)(R:World→Prop)(S:List Nat)(w w':World):Prop:=
 ∃ W w1 N,Kp [] w W∧R w1∧Kp S W w1∧w.heap.size≤N∧w'.heap[cb]?=some (ι Cb key on stp)∧Kp [N,cb] w1 w'
theorem xS0(B tb cb Cb A n C:Nat)(cache:Value)(calls writes:Int)(k:KF)(f:TF)(ps:List KV)(ckey:ByteArray)(con:Bool)(cstp:Int)(key:ByteArray)(o:Option KV)(S:List Nat)(R:World→Prop)(w:World)(hI:LkIn w B tb A n C cache calls writes k f ps)(hP:ProgS w S)(hlt:∀ k∈S,k<w.heap.size)(hC:w.heap[cb]?=some (ι Cb ckey con cstp))(hdn:f.dn=false)(ho:o=ps[0]?)(hok:∀ q∈ps,qE0 q)
  (hcall:∀ W,Kp [] w W→Calls prog 22 #[.pointer (some ⟨Cb,0,none⟩)] W fun e w'=>e=.returned (.tuple #[.agg #[.string (pkv o).k,.string (pkv o).v],.bool o.isSome,.nilIface])∧R w'∧Kp S W w'):
  Calls prog 137 #[.pointer (some ⟨B,0,none⟩),.pointer (some ⟨tb,0,none⟩),.pointer (some ⟨cb,0,none⟩),.int .i64 0,.string key] w fun e w'=>e=.returned (.bool true)∧qQ4 cb Cb (pkv o).k o.isSome f.stp R S w w':=by
 have HDN:=zh hdn;have HO:=zh ho;have HOK:=zh hok;clear hdn ho hok;have HLT:=zh hlt;clear hlt;have hBs:=ζ hI.hB;have hTs:=ζ hI.hT;have hAs:=ζ hI.hA;have hCs:=ζ hC;have HI:=zh hI;have HP:=zh hP;have HC:=zh hC;have hB:=hI.hB;have hT:=hI.hT;have hkA:=hI.kA;obtain⟨vb,vc,hvv⟩:=hI.sp.form;obtain⟨m,hm⟩:∃ m,ps.length=m:=⟨_,rfl⟩;rw[hm] at hvv;have HM:=zh hm;have HVV:=zh hvv;have b0:=ξ hB 0;simp only[kob,zG,zH,zI] at b0;rw[hkA] at b0;have HCALL:=hcall;clear hI hP hC hB hT hkA hcall hvv hm;go_enter func137,ntmps137;go_wp2_with fail;refine (qE6 A n C cache calls writes w HI.out.hA).mono ?_;rintro e w0 ⟨rfl,rfl⟩;have hT0:=η (.cells #[.string ⟨#[]⟩,.string ⟨#[]⟩] 42) HI.out.hT;have t1:=ξ hT0 1;simp only[tob,zG,zH,zI] at t1;rw[HVV.out] at t1;clear b0;go_wp2_with fail;clear t1 hT0;obtain⟨wa,hwa,hPa,hKa,hsa⟩:=qH9 w0 (.cells #[.string ⟨#[]⟩,.string ⟨#[]⟩] 42);rw[←hwa];clear hwa;have hTa:=hKa.hp HI.out.hT;have hCa:=hKa.hp HC.out;have hSd:wa.drew.heap[tb]?=some (tob f)∧wa.drew.heap[cb]?=some (ι Cb ckey con cstp):=⟨hTa,hCa⟩;refine wp_region_held_drew (S:=fun W=>W.heap[tb]?=some (tob f)∧W.heap[cb]?=some (ι Cb ckey con cstp)) (by kernel_rfl) hSd (fun _=>?_);refine zP 0 tb 0 hSd ?_;refine zP 1 tb 0 hSd ?_;refine zP 2 tb 1 hSd ?_;refine zP 3 tb 1 hSd ?_;refine zV 4 (.agg #[.slice vb m vc]) rfl (fun W hS=>by have c:=ξ hS.1 1;simp only[tob,zG,zH,zI] at c;rw[HVV.out] at c;clear hS;go_simp) hSd ?_;refine zP 5 cb 0 hSd ?_;refine zP 6 cb 0 hSd ?_;refine zP 7 cb 1 hSd ?_;refine zP 8 cb 1 hSd ?_;refine zV 9 (.string ckey) rfl (fun W hS=>by have c:=ξ hS.2 1;simp only[ι,zG,zH,zI] at c;clear hS;go_simp) hSd ?_;refine zq 10 fun K hK=>?_;go_simp;have hspd:SPR wa.drew (.slice vb m vc) ps:=by rw[←HVV.out];exact HI.out.sp.keep0 (hKa.drew)
 refine (qI5 (.slice vb m vc) ps ckey wa.drew hspd (by have:=HI.out.sz;omega)).mono ?_;rintro e w2 ⟨rfl,hK2⟩;have hKw2:Kp [] w0 w2:=(hKa.drew).tr hK2;have hPw2:w2.heap[w0.heap.size]?=some (.cells #[.string ⟨#[]⟩,.string ⟨#[]⟩] 42):=hK2.heap (w:=wa.drew) hPa (by simp);have hT2:=hKw2.hp HI.out.hT;have hC2:=hKw2.hp HC.out;have hS2:w2.heap[tb]?=some (tob f)∧w2.heap[cb]?=some (ι Cb ckey con cstp):=⟨hT2,hC2⟩;refine hK.out _ _ hS2 (fun _=>?_);clear hK K hSd hspd
 try simp only[zZ]
 refine zU 11 (.int .i64 (qA0 ps ckey:Nat)) hS2 ?_;refine zd ?_;have HK2:=zh hKw2;have HP2:=zh hPw2;have hC2s:=ζ hC2;have hT2s:=ζ hT2;have c0:=ξ hC2 0;simp only[ι,zG,zH,zI] at c0;clear hS2 hK2 hKw2 hPw2 hTa hCa hKa hPa hT2 hC2;go_wp2_with fail;refine (HCALL w2 HK2.out).mono ?_;rintro e w3 ⟨rfl,hR,hK3⟩;have hP2s:=ζ HP2.out;have hQ:=HP.out.more HK2.out HLT.out;have hT3:=hQ.stay hK3 (HK2.out.hp HI.out.hT) (by decide);have hB3:=hQ.stay hK3 (HK2.out.hp HI.out.hB) (by decide);have hC3:=hQ.stay hK3 (HK2.out.hp HC.out) (by decide);have hP3:=hQ.stay hK3 HP2.out (by decide);have hsp3:=(HI.out.sp.keep0 HK2.out).keep hK3 (hQ.apt (by decide));have hg3:=hQ.g0 hK3 ((HK2.out.cell (a:=⟨0,0,none⟩) (by show 0<w0.heap.size;omega) (by simp)).trans HI.out.g0) (by omega);have HR:Hid (R w3∧Kp S w2 w3):=⟨hR,hK3⟩;have hP3s:=ζ hP3;have z0:=ξ hP3;have fz0:=ρ hP3;have HP3:=zh hP3;clear hR hK3 hP3 c0 hQ
 cases o with
 | none=>
  simp only[pkv,Option.isSome_none];go_wp2_with fail;have hts:=qB2 (.string ⟨#[]⟩) (.string ⟨#[]⟩) HP3.out;obtain⟨w4,hw4,hP4,hK4⟩:∃ w4,w4=(w3.setCell ⟨w0.heap.size,0,none⟩ (.string ⟨#[]⟩)).setCell ⟨w0.heap.size,1,none⟩ (.string ⟨#[]⟩)∧w4.heap[w0.heap.size]?=some (.cells #[.string ⟨#[]⟩,.string ⟨#[]⟩] 42)∧Kp [w0.heap.size] w3 w4:=⟨_,rfl,hts.1,hts.2⟩;rw[←hw4];clear hw4 hts z0 fz0;have hT4:=hK4.ho hT3;have hB4:=hK4.ho hB3;have hC4:=hK4.ho hC3;have hsp4:=hsp3.keep hK4 (fun k hk c t fr e=>by rw[List.mem_singleton.1 hk,HP3.out] at e;cases e;decide);have hg4:w4.cell? ⟨0,0,none⟩=some qB5:=(hK4.cell (a:=⟨0,0,none⟩) (by show 0<w3.heap.size;omega) (by simp;omega)).trans hg3;clear hT3 hB3 hC3 hsp3 hg3;refine (qD9 .nilIface none w4 hg4 rfl).mono ?_;rintro e w5 ⟨rfl,hK5⟩;have hT5:=hK5.hp hT4;have hB5:=hK5.hp hB4;have hC5:=hK5.hp hC4;have hP5:=hK5.hp hP4;have hsp5:=hsp4.keep0 hK5;have HK35:Hid (Kp [w0.heap.size] w3 w5):=hK4.tr hK5;have hT5s:=ζ hT5;have hB5s:=ζ hB5;have hC5s:=ζ hC5;have hP5s:=ζ hP5;have HC5:=zh hC5;have HT5:=zh hT5;have b10:=ξ hB5 10;simp only[kob,zG,zH,zI] at b10;rw[HI.out.po] at b10;have t1:=ξ hT5 1;have t3:=ξ hT5 3;have t7:=ξ hT5 7;simp only[tob,zG,zH,zI] at t1 t3 t7;rw[HVV.out] at t1;rw[HDN.out] at t3;have z0:=ξ hP5;have c1:=ξ hC5;simp only[ι,zG,zH,zI] at c1;have fc1:=ρ hC5;have HSP5:Hid (SPR w5 (.slice vb m vc) ps):=by rw[←HVV.out];exact hsp5
  clear hT4 hB4 hC4 hsp4 hg4 hP4 hK4 hT5 hB5 hC5 hP5 hsp5 hK5
  go_wp2_with (go_at_call 127;refine (qC3 _ _).mono ?_;rintro e w5 ⟨rfl,rfl⟩)
  go_quiet (fail)
  have hm0:m=0:=by
   have h:=HO.out;rw[←HM.out]
   cases ps with
   | nil=>rfl
   | cons a l=>simp at h
  subst hm0;go_wp2;go_ret;have hend:=HC5.out;have hK:Kp [w0.heap.size,cb] w3 (((w5.setCell ⟨cb,1,none⟩ (.string ⟨#[]⟩)).setCell ⟨cb,2,none⟩ (.bool false)).setCell ⟨cb,3,none⟩ (.int .i64 f.stp)):=((((HK35.out.mono (S':=[w0.heap.size,cb]) (by simp +contextual)).sc _).sc _).sc _);exact⟨rfl,w2,w3,w0.heap.size,HK2.out,HR.out.1,HR.out.2,Nat.le_refl _,μ (μ (μ hend 1 _) 2 _) 3 _,by first | exact hK | exact hK.drewN _ | exact hK.drew⟩
 | some p=>
  simp only[pkv,Option.isSome_some];go_wp2_with fail;have hts:=qB2 (.string p.k) (.string p.v) HP3.out;obtain⟨w4,hw4,hP4,hK4⟩:∃ w4,w4=(w3.setCell ⟨w0.heap.size,0,none⟩ (.string p.k)).setCell ⟨w0.heap.size,1,none⟩ (.string p.v)∧w4.heap[w0.heap.size]?=some (.cells #[.string p.k,.string p.v] 42)∧Kp [w0.heap.size] w3 w4:=⟨_,rfl,hts.1,hts.2⟩;rw[←hw4];clear hw4 hts z0 fz0;have hT4:=hK4.ho hT3;have hB4:=hK4.ho hB3;have hC4:=hK4.ho hC3;have hsp4:=hsp3.keep hK4 (fun k hk c t fr e=>by rw[List.mem_singleton.1 hk,HP3.out] at e;cases e;decide);have hg4:w4.cell? ⟨0,0,none⟩=some qB5:=(hK4.cell (a:=⟨0,0,none⟩) (by show 0<w3.heap.size;omega) (by simp;omega)).trans hg3;clear hT3 hB3 hC3 hsp3 hg3;refine (qD9 .nilIface none w4 hg4 rfl).mono ?_;rintro e w5 ⟨rfl,hK5⟩;have hT5:=hK5.hp hT4;have hB5:=hK5.hp hB4;have hC5:=hK5.hp hC4;have hP5:=hK5.hp hP4;have hsp5:=hsp4.keep0 hK5;have HK35:Hid (Kp [w0.heap.size] w3 w5):=hK4.tr hK5;have hT5s:=ζ hT5;have hB5s:=ζ hB5;have hC5s:=ζ hC5;have hP5s:=ζ hP5;have HC5:=zh hC5;have HT5:=zh hT5;have b10:=ξ hB5 10;simp only[kob,zG,zH,zI] at b10;rw[HI.out.po] at b10;have t1:=ξ hT5 1;have t3:=ξ hT5 3;have t7:=ξ hT5 7;simp only[tob,zG,zH,zI] at t1 t3 t7;rw[HVV.out] at t1;rw[HDN.out] at t3;have z0:=ξ hP5;have c1:=ξ hC5;simp only[ι,zG,zH,zI] at c1;have fc1:=ρ hC5;have HSP5:Hid (SPR w5 (.slice vb m vc) ps):=by rw[←HVV.out];exact hsp5
  clear hT4 hB4 hC4 hsp4 hg4 hP4 hK4 hT5 hB5 hC5 hP5 hsp5 hK5;have HPE:Hid (p.k.toList.isEmpty=false):=qQ9 (HOK.out p (List.mem_of_getElem? HO.out.symm)).1;have hpe:=HPE.out;have hp0:ps[0]?=some p:=HO.out.symm;obtain⟨hl0,hpx⟩:=List.getElem?_eq_some_iff.1 hp0;have hmp:¬m=0:=by have:=HM.out;omega
  have hmi:(0:Int)<(m:Int):=by omega
  go_wp2_with (go_at_call 127;refine (qC3 _ _).mono ?_;rintro e w5 ⟨rfl,rfl⟩)
  go_quiet (fail)
  obtain⟨gp,off,cap,cur,fr,hvs,hcap,hgrow,hcur⟩:=HSP5.out.at (by omega);simp only[Value.slice.injEq] at hvs;obtain⟨rfl,hmm,rfl⟩:=hvs;clear hmm;obtain⟨a0,a1⟩:=hcur 0 hl0;rw[hpx] at a0 a1;have q0:=ξ hgrow (off+0*2);rw[a0] at q0;have q1:=ξ hgrow (off+0*2+1);rw[a1] at q1;simp only[Nat.zero_mul,Nat.add_zero] at q0 q1;have hgs:=ζ hgrow;have hgc:gp≠cb:=ω hgrow HC5.out (by decide);have hgt':gp≠tb:=ω hgrow HT5.out (by decide);have htc:tb≠cb:=ω HT5.out HC5.out (by decide);have hpc':w0.heap.size≠cb:=by omega
  clear hgrow hcur a0 a1 hp0 hpx;go_wp2_with fail
  go_quiet (fail)
  go_wp2;go_ret;have hend:=HC5.out;refine⟨by simp,w2,w3,w0.heap.size,HK2.out,HR.out.1,HR.out.2,Nat.le_refl _,μ (μ (μ (μ (μ hend 1 _) 2 _) 3 _) 2 _) 1 _,?_⟩;exact ((((((HK35.out.mono (S':=[w0.heap.size,cb]) (by simp +contextual)).drewN _).sc _).sc _).sc _).sc _ |>.sc _ |>.drewN _)
theorem xS2(B tb cb Cb A n C:Nat)(cache:Value)(calls writes:Int)(k:KF)(f:TF)(ps:List KV)(ckey:ByteArray)(con:Bool)(cstp:Int)(key:ByteArray)(o:Option KV)(to:Int)(S:List Nat)(R:World→Prop)(w:World)(hI:LkIn w B tb A n C cache calls writes k f ps)(hP:ProgS w S)(hlt:∀ k∈S,k<w.heap.size)(hC:w.heap[cb]?=some (ι Cb ckey con cstp))(hdn:f.dn=false)(hto:(ps.length:Int)-1=to)(ho:o=if to<0 then none else ps[to.toNat]?)(hok:∀ q∈ps,qE0 q)
  (hcall:∀ W,Kp [] w W→Calls prog 25 #[.pointer (some ⟨Cb,0,none⟩)] W fun e w'=>e=.returned (.tuple #[.agg #[.string (pkv o).k,.string (pkv o).v],.bool o.isSome,.nilIface])∧R w'∧Kp S W w'):
  Calls prog 137 #[.pointer (some ⟨B,0,none⟩),.pointer (some ⟨tb,0,none⟩),.pointer (some ⟨cb,0,none⟩),.int .i64 1,.string key] w fun e w'=>e=.returned (.bool true)∧qQ4 cb Cb (pkv o).k o.isSome f.stp R S w w':=by
 have HDN:=zh hdn;have HO:=zh ho;have HOK:=zh hok;have HTO:=zh hto;clear hdn ho hok hto;have HLT:=zh hlt;clear hlt;have hBs:=ζ hI.hB;have hTs:=ζ hI.hT;have hAs:=ζ hI.hA;have hCs:=ζ hC;have HI:=zh hI;have HP:=zh hP;have HC:=zh hC;have hB:=hI.hB;have hT:=hI.hT;have hkA:=hI.kA;obtain⟨vb,vc,hvv⟩:=hI.sp.form;obtain⟨m,hm⟩:∃ m,ps.length=m:=⟨_,rfl⟩;rw[hm] at hvv;have HM:=zh hm;have HVV:=zh hvv;have b0:=ξ hB 0;simp only[kob,zG,zH,zI] at b0;rw[hkA] at b0;have HCALL:=hcall;clear hI hP hC hB hT hkA hcall hvv hm;go_enter func137,ntmps137;go_wp2_with fail;refine (qE6 A n C cache calls writes w HI.out.hA).mono ?_;rintro e w0 ⟨rfl,rfl⟩;have hT0:=η (.cells #[.string ⟨#[]⟩,.string ⟨#[]⟩] 42) HI.out.hT;have t1:=ξ hT0 1;simp only[tob,zG,zH,zI] at t1;rw[HVV.out] at t1;clear b0;go_wp2_with fail;clear t1 hT0;obtain⟨wa,hwa,hPa,hKa,hsa⟩:=qH9 w0 (.cells #[.string ⟨#[]⟩,.string ⟨#[]⟩] 42);rw[←hwa];clear hwa;have hTa:=hKa.hp HI.out.hT;have hCa:=hKa.hp HC.out;have hSd:wa.drew.heap[tb]?=some (tob f)∧wa.drew.heap[cb]?=some (ι Cb ckey con cstp):=⟨hTa,hCa⟩;refine wp_region_held_drew (S:=fun W=>W.heap[tb]?=some (tob f)∧W.heap[cb]?=some (ι Cb ckey con cstp)) (by kernel_rfl) hSd (fun _=>?_);refine zP 0 tb 0 hSd ?_;refine zP 1 tb 0 hSd ?_;refine zP 2 tb 1 hSd ?_;refine zP 3 tb 1 hSd ?_;refine zV 4 (.agg #[.slice vb m vc]) rfl (fun W hS=>by have c:=ξ hS.1 1;simp only[tob,zG,zH,zI] at c;rw[HVV.out] at c;clear hS;go_simp) hSd ?_;refine zP 5 cb 0 hSd ?_;refine zP 6 cb 0 hSd ?_;refine zP 7 cb 1 hSd ?_;refine zP 8 cb 1 hSd ?_;refine zV 9 (.string ckey) rfl (fun W hS=>by have c:=ξ hS.2 1;simp only[ι,zG,zH,zI] at c;clear hS;go_simp) hSd ?_;refine zq 10 fun K hK=>?_;go_simp;have hspd:SPR wa.drew (.slice vb m vc) ps:=by rw[←HVV.out];exact HI.out.sp.keep0 (hKa.drew)
 refine (qI5 (.slice vb m vc) ps ckey wa.drew hspd (by have:=HI.out.sz;omega)).mono ?_;rintro e w2 ⟨rfl,hK2⟩;have hKw2:Kp [] w0 w2:=(hKa.drew).tr hK2;have hPw2:w2.heap[w0.heap.size]?=some (.cells #[.string ⟨#[]⟩,.string ⟨#[]⟩] 42):=hK2.heap (w:=wa.drew) hPa (by simp);have hT2:=hKw2.hp HI.out.hT;have hC2:=hKw2.hp HC.out;have hS2:w2.heap[tb]?=some (tob f)∧w2.heap[cb]?=some (ι Cb ckey con cstp):=⟨hT2,hC2⟩;refine hK.out _ _ hS2 (fun _=>?_);clear hK K hSd hspd
 try simp only[zZ]
 refine zU 11 (.int .i64 (qA0 ps ckey:Nat)) hS2 ?_;refine zd ?_;have HK2:=zh hKw2;have HP2:=zh hPw2;have hC2s:=ζ hC2;have hT2s:=ζ hT2;have c0:=ξ hC2 0;simp only[ι,zG,zH,zI] at c0;clear hS2 hK2 hKw2 hPw2 hTa hCa hKa hPa hT2 hC2;have hw:wrap64 ((m:Int)-1)=to:=by
  have h1:=HTO.out;have h2:=HI.out.sz;have h3:=HM.out;have h4:=qO6 ps ckey;simp only[wrap64];omega
 go_wp2_with fail;refine (HCALL w2 HK2.out).mono ?_;rintro e w3 ⟨rfl,hR,hK3⟩;have hP2s:=ζ HP2.out;have hQ:=HP.out.more HK2.out HLT.out;have hT3:=hQ.stay hK3 (HK2.out.hp HI.out.hT) (by decide);have hB3:=hQ.stay hK3 (HK2.out.hp HI.out.hB) (by decide);have hC3:=hQ.stay hK3 (HK2.out.hp HC.out) (by decide);have hP3:=hQ.stay hK3 HP2.out (by decide);have hsp3:=(HI.out.sp.keep0 HK2.out).keep hK3 (hQ.apt (by decide));have hg3:=hQ.g0 hK3 ((HK2.out.cell (a:=⟨0,0,none⟩) (by show 0<w0.heap.size;omega) (by simp)).trans HI.out.g0) (by omega);have HR:Hid (R w3∧Kp S w2 w3):=⟨hR,hK3⟩;have hP3s:=ζ hP3;have z0:=ξ hP3;have fz0:=ρ hP3;have HP3:=zh hP3;clear hR hK3 hP3 c0 hQ
 cases o with
 | none=>
  simp only[pkv,Option.isSome_none];go_wp2_with fail;rw[hw];clear hw;have hts:=qB2 (.string ⟨#[]⟩) (.string ⟨#[]⟩) HP3.out;obtain⟨w4,hw4,hP4,hK4⟩:∃ w4,w4=(w3.setCell ⟨w0.heap.size,0,none⟩ (.string ⟨#[]⟩)).setCell ⟨w0.heap.size,1,none⟩ (.string ⟨#[]⟩)∧w4.heap[w0.heap.size]?=some (.cells #[.string ⟨#[]⟩,.string ⟨#[]⟩] 42)∧Kp [w0.heap.size] w3 w4:=⟨_,rfl,hts.1,hts.2⟩;rw[←hw4];clear hw4 hts z0 fz0;have hT4:=hK4.ho hT3;have hB4:=hK4.ho hB3;have hC4:=hK4.ho hC3;have hsp4:=hsp3.keep hK4 (fun k hk c t fr e=>by rw[List.mem_singleton.1 hk,HP3.out] at e;cases e;decide);have hg4:w4.cell? ⟨0,0,none⟩=some qB5:=(hK4.cell (a:=⟨0,0,none⟩) (by show 0<w3.heap.size;omega) (by simp;omega)).trans hg3;clear hT3 hB3 hC3 hsp3 hg3;refine (qD9 .nilIface none w4 hg4 rfl).mono ?_;rintro e w5 ⟨rfl,hK5⟩;have hT5:=hK5.hp hT4;have hB5:=hK5.hp hB4;have hC5:=hK5.hp hC4;have hP5:=hK5.hp hP4;have hsp5:=hsp4.keep0 hK5;have HK35:Hid (Kp [w0.heap.size] w3 w5):=hK4.tr hK5;have hT5s:=ζ hT5;have hB5s:=ζ hB5;have hC5s:=ζ hC5;have hP5s:=ζ hP5;have HC5:=zh hC5;have HT5:=zh hT5;have b10:=ξ hB5 10;simp only[kob,zG,zH,zI] at b10;rw[HI.out.po] at b10;have t1:=ξ hT5 1;have t3:=ξ hT5 3;have t7:=ξ hT5 7;simp only[tob,zG,zH,zI] at t1 t3 t7;rw[HVV.out] at t1;rw[HDN.out] at t3;have z0:=ξ hP5;have c1:=ξ hC5;simp only[ι,zG,zH,zI] at c1;have fc1:=ρ hC5;have HSP5:Hid (SPR w5 (.slice vb m vc) ps):=by rw[←HVV.out];exact hsp5
  clear hT4 hB4 hC4 hsp4 hg4 hP4 hK4 hT5 hB5 hC5 hP5 hsp5 hK5
  go_wp2_with (go_at_call 127;refine (qC3 _ _).mono ?_;rintro e w5 ⟨rfl,rfl⟩)
  go_quiet (fail)
  by_cases hneg:to<0
  ·go_wp2;go_ret;have hend:=HC5.out;have hK:Kp [w0.heap.size,cb] w3 (((w5.setCell ⟨cb,1,none⟩ (.string ⟨#[]⟩)).setCell ⟨cb,2,none⟩ (.bool false)).setCell ⟨cb,3,none⟩ (.int .i64 f.stp)):=((((HK35.out.mono (S':=[w0.heap.size,cb]) (by simp +contextual)).sc _).sc _).sc _);exact⟨rfl,w2,w3,w0.heap.size,HK2.out,HR.out.1,HR.out.2,Nat.le_refl _,μ (μ (μ hend 1 _) 2 _) 3 _,by first | exact hK | exact hK.drewN _ | exact hK.drew⟩
  ·have hge:(m:Int)≤to:=by
    have h:=HO.out;rw[if_neg hneg] at h;have h2:=List.getElem?_eq_none_iff.1 h.symm;have h3:=HM.out;omega
   go_wp2;go_ret;have hend:=HC5.out;have hK:Kp [w0.heap.size,cb] w3 (((w5.setCell ⟨cb,1,none⟩ (.string ⟨#[]⟩)).setCell ⟨cb,2,none⟩ (.bool false)).setCell ⟨cb,3,none⟩ (.int .i64 f.stp)):=((((HK35.out.mono (S':=[w0.heap.size,cb]) (by simp +contextual)).sc _).sc _).sc _);exact⟨rfl,w2,w3,w0.heap.size,HK2.out,HR.out.1,HR.out.2,Nat.le_refl _,μ (μ (μ hend 1 _) 2 _) 3 _,by first | exact hK | exact hK.drewN _ | exact hK.drew⟩
 | some p=>
  simp only[pkv,Option.isSome_some];go_wp2_with fail;rw[hw];clear hw;have hts:=qB2 (.string p.k) (.string p.v) HP3.out;obtain⟨w4,hw4,hP4,hK4⟩:∃ w4,w4=(w3.setCell ⟨w0.heap.size,0,none⟩ (.string p.k)).setCell ⟨w0.heap.size,1,none⟩ (.string p.v)∧w4.heap[w0.heap.size]?=some (.cells #[.string p.k,.string p.v] 42)∧Kp [w0.heap.size] w3 w4:=⟨_,rfl,hts.1,hts.2⟩;rw[←hw4];clear hw4 hts z0 fz0;have hT4:=hK4.ho hT3;have hB4:=hK4.ho hB3;have hC4:=hK4.ho hC3;have hsp4:=hsp3.keep hK4 (fun k hk c t fr e=>by rw[List.mem_singleton.1 hk,HP3.out] at e;cases e;decide);have hg4:w4.cell? ⟨0,0,none⟩=some qB5:=(hK4.cell (a:=⟨0,0,none⟩) (by show 0<w3.heap.size;omega) (by simp;omega)).trans hg3;clear hT3 hB3 hC3 hsp3 hg3;refine (qD9 .nilIface none w4 hg4 rfl).mono ?_;rintro e w5 ⟨rfl,hK5⟩;have hT5:=hK5.hp hT4;have hB5:=hK5.hp hB4;have hC5:=hK5.hp hC4;have hP5:=hK5.hp hP4;have hsp5:=hsp4.keep0 hK5;have HK35:Hid (Kp [w0.heap.size] w3 w5):=hK4.tr hK5;have hT5s:=ζ hT5;have hB5s:=ζ hB5;have hC5s:=ζ hC5;have hP5s:=ζ hP5;have HC5:=zh hC5;have HT5:=zh hT5;have b10:=ξ hB5 10;simp only[kob,zG,zH,zI] at b10;rw[HI.out.po] at b10;have t1:=ξ hT5 1;have t3:=ξ hT5 3;have t7:=ξ hT5 7;simp only[tob,zG,zH,zI] at t1 t3 t7;rw[HVV.out] at t1;rw[HDN.out] at t3;have z0:=ξ hP5;have c1:=ξ hC5;simp only[ι,zG,zH,zI] at c1;have fc1:=ρ hC5;have HSP5:Hid (SPR w5 (.slice vb m vc) ps):=by rw[←HVV.out];exact hsp5
  clear hT4 hB4 hC4 hsp4 hg4 hP4 hK4 hT5 hB5 hC5 hP5 hsp5 hK5;obtain⟨i,hi,hpi⟩:∃ i:Nat,to=(i:Int)∧ps[i]?=some p:=by
   have h:=HO.out;by_cases hneg:to<0
   ·rw[if_pos hneg] at h;cases h
   ·rw[if_neg hneg] at h;exact⟨to.toNat,by omega,h.symm⟩
  subst hi;have HPE:Hid (p.k.toList.isEmpty=false):=qQ9 (HOK.out p (List.mem_of_getElem? hpi)).1;have hpe:=HPE.out;obtain⟨hl0,hpx⟩:=List.getElem?_eq_some_iff.1 hpi;have hmi:(i:Int)<(m:Int):=by have:=HM.out;omega
  have hng:¬(i:Int)<0:=by omega
  have hnge:¬(m:Int)≤(i:Int):=by omega
  go_wp2_with (go_at_call 127;refine (qC3 _ _).mono ?_;rintro e w5 ⟨rfl,rfl⟩)
  go_quiet (fail)
  obtain⟨gp,off,cap,cur,fr,hvs,hcap,hgrow,hcur⟩:=HSP5.out.at (by omega);simp only[Value.slice.injEq] at hvs;obtain⟨rfl,hmm,rfl⟩:=hvs;clear hmm;obtain⟨a0,a1⟩:=hcur i hl0;rw[hpx] at a0 a1;have q0:=ξ hgrow (off+i*2);rw[a0] at q0;have q1:=ξ hgrow (off+i*2+1);rw[a1] at q1;have hgs:=ζ hgrow;have hgc:gp≠cb:=ω hgrow HC5.out (by decide);have hgt':gp≠tb:=ω hgrow HT5.out (by decide);have htc:tb≠cb:=ω HT5.out HC5.out (by decide);have hpc':w0.heap.size≠cb:=by omega
  clear hgrow hcur a0 a1 hpi hpx;go_wp2_with fail
  go_quiet (fail)
  go_wp2;go_ret;have hend:=HC5.out;refine⟨by simp,w2,w3,w0.heap.size,HK2.out,HR.out.1,HR.out.2,Nat.le_refl _,μ (μ (μ (μ (μ hend 1 _) 2 _) 3 _) 2 _) 1 _,?_⟩;exact ((((((HK35.out.mono (S':=[w0.heap.size,cb]) (by simp +contextual)).drewN _).sc _).sc _).sc _).sc _ |>.sc _ |>.drewN _)
theorem xS4(B tb cb Cb A n C:Nat)(cache:Value)(calls writes:Int)(k:KF)(f:TF)(ps:List KV)(ckey:ByteArray)(con:Bool)(cstp:Int)(key:ByteArray)(o:Option KV)(to:Int)(S:List Nat)(R:World→Prop)(w:World)(hI:LkIn w B tb A n C cache calls writes k f ps)(hP:ProgS w S)(hlt:∀ k∈S,k<w.heap.size)(hC:w.heap[cb]?=some (ι Cb ckey con cstp))(hdn:f.dn=false)(hon:con=true)(hstp:cstp=f.stp)(hto:((qA0 ps ckey:Nat):Int)+1=to)(ho:o=if to<0 then none else ps[to.toNat]?)(hok:∀ q∈ps,qE0 q)
  (hcall:∀ W,Kp [] w W→Calls prog 23 #[.pointer (some ⟨Cb,0,none⟩)] W fun e w'=>e=.returned (.tuple #[.agg #[.string (pkv o).k,.string (pkv o).v],.bool o.isSome,.nilIface])∧R w'∧Kp S W w'):
  Calls prog 137 #[.pointer (some ⟨B,0,none⟩),.pointer (some ⟨tb,0,none⟩),.pointer (some ⟨cb,0,none⟩),.int .i64 3,.string key] w fun e w'=>e=.returned (.bool true)∧qQ4 cb Cb (pkv o).k o.isSome f.stp R S w w':=by
 have HDN:=zh hdn;have HO:=zh ho;have HOK:=zh hok;have HTO:=zh hto;have HON:Hid (con=true∧cstp=f.stp):=⟨hon,hstp⟩;clear hdn ho hok hto hon hstp;have HLT:=zh hlt;clear hlt;have hBs:=ζ hI.hB;have hTs:=ζ hI.hT;have hAs:=ζ hI.hA;have hCs:=ζ hC;have HI:=zh hI;have HP:=zh hP;have HC:=zh hC;have hB:=hI.hB;have hT:=hI.hT;have hkA:=hI.kA;obtain⟨vb,vc,hvv⟩:=hI.sp.form;obtain⟨m,hm⟩:∃ m,ps.length=m:=⟨_,rfl⟩;rw[hm] at hvv;have HM:=zh hm;have HVV:=zh hvv;have b0:=ξ hB 0;simp only[kob,zG,zH,zI] at b0;rw[hkA] at b0;have HCALL:=hcall;clear hI hP hC hB hT hkA hcall hvv hm;go_enter func137,ntmps137;go_wp2_with fail;refine (qE6 A n C cache calls writes w HI.out.hA).mono ?_;rintro e w0 ⟨rfl,rfl⟩;have hT0:=η (.cells #[.string ⟨#[]⟩,.string ⟨#[]⟩] 42) HI.out.hT;have t1:=ξ hT0 1;simp only[tob,zG,zH,zI] at t1;rw[HVV.out] at t1;clear b0;go_wp2_with fail;clear t1 hT0;obtain⟨wa,hwa,hPa,hKa,hsa⟩:=qH9 w0 (.cells #[.string ⟨#[]⟩,.string ⟨#[]⟩] 42);rw[←hwa];clear hwa;have hTa:=hKa.hp HI.out.hT;have hCa:=hKa.hp HC.out;have hSd:wa.drew.heap[tb]?=some (tob f)∧wa.drew.heap[cb]?=some (ι Cb ckey con cstp):=⟨hTa,hCa⟩;refine wp_region_held_drew (S:=fun W=>W.heap[tb]?=some (tob f)∧W.heap[cb]?=some (ι Cb ckey con cstp)) (by kernel_rfl) hSd (fun _=>?_);refine zP 0 tb 0 hSd ?_;refine zP 1 tb 0 hSd ?_;refine zP 2 tb 1 hSd ?_;refine zP 3 tb 1 hSd ?_;refine zV 4 (.agg #[.slice vb m vc]) rfl (fun W hS=>by have c:=ξ hS.1 1;simp only[tob,zG,zH,zI] at c;rw[HVV.out] at c;clear hS;go_simp) hSd ?_;refine zP 5 cb 0 hSd ?_;refine zP 6 cb 0 hSd ?_;refine zP 7 cb 1 hSd ?_;refine zP 8 cb 1 hSd ?_;refine zV 9 (.string ckey) rfl (fun W hS=>by have c:=ξ hS.2 1;simp only[ι,zG,zH,zI] at c;clear hS;go_simp) hSd ?_;refine zq 10 fun K hK=>?_;go_simp;have hspd:SPR wa.drew (.slice vb m vc) ps:=by rw[←HVV.out];exact HI.out.sp.keep0 (hKa.drew)
 refine (qI5 (.slice vb m vc) ps ckey wa.drew hspd (by have:=HI.out.sz;omega)).mono ?_;rintro e w2 ⟨rfl,hK2⟩;have hKw2:Kp [] w0 w2:=(hKa.drew).tr hK2;have hPw2:w2.heap[w0.heap.size]?=some (.cells #[.string ⟨#[]⟩,.string ⟨#[]⟩] 42):=hK2.heap (w:=wa.drew) hPa (by simp);have hT2:=hKw2.hp HI.out.hT;have hC2:=hKw2.hp HC.out;have hS2:w2.heap[tb]?=some (tob f)∧w2.heap[cb]?=some (ι Cb ckey con cstp):=⟨hT2,hC2⟩;refine hK.out _ _ hS2 (fun _=>?_);clear hK K hSd hspd
 try simp only[zZ]
 refine zU 11 (.int .i64 (qA0 ps ckey:Nat)) hS2 ?_;refine zd ?_;have HK2:=zh hKw2;have HP2:=zh hPw2;have hC2s:=ζ hC2;have hT2s:=ζ hT2;have c0:=ξ hC2 0;simp only[ι,zG,zH,zI] at c0;clear hS2 hK2 hKw2 hPw2 hTa hCa hKa hPa hT2 hC2;have hw:wrap64 (((qA0 ps ckey:Nat):Int)+1)=to:=by
  have h1:=HTO.out;have h2:=HI.out.sz;have h3:=HM.out;have h4:=qO6 ps ckey;simp only[wrap64];omega
 go_wp2_with fail;refine (HCALL w2 HK2.out).mono ?_;rintro e w3 ⟨rfl,hR,hK3⟩;have hP2s:=ζ HP2.out;have hQ:=HP.out.more HK2.out HLT.out;have hT3:=hQ.stay hK3 (HK2.out.hp HI.out.hT) (by decide);have hB3:=hQ.stay hK3 (HK2.out.hp HI.out.hB) (by decide);have hC3:=hQ.stay hK3 (HK2.out.hp HC.out) (by decide);have hP3:=hQ.stay hK3 HP2.out (by decide);have hsp3:=(HI.out.sp.keep0 HK2.out).keep hK3 (hQ.apt (by decide));have hg3:=hQ.g0 hK3 ((HK2.out.cell (a:=⟨0,0,none⟩) (by show 0<w0.heap.size;omega) (by simp)).trans HI.out.g0) (by omega);have HR:Hid (R w3∧Kp S w2 w3):=⟨hR,hK3⟩;have hP3s:=ζ hP3;have z0:=ξ hP3;have fz0:=ρ hP3;have HP3:=zh hP3;clear hR hK3 hP3 c0 hQ
 cases o with
 | none=>
  simp only[pkv,Option.isSome_none];go_wp2_with fail;rw[hw];clear hw;have hts:=qB2 (.string ⟨#[]⟩) (.string ⟨#[]⟩) HP3.out;obtain⟨w4,hw4,hP4,hK4⟩:∃ w4,w4=(w3.setCell ⟨w0.heap.size,0,none⟩ (.string ⟨#[]⟩)).setCell ⟨w0.heap.size,1,none⟩ (.string ⟨#[]⟩)∧w4.heap[w0.heap.size]?=some (.cells #[.string ⟨#[]⟩,.string ⟨#[]⟩] 42)∧Kp [w0.heap.size] w3 w4:=⟨_,rfl,hts.1,hts.2⟩;rw[←hw4];clear hw4 hts z0 fz0;have hT4:=hK4.ho hT3;have hB4:=hK4.ho hB3;have hC4:=hK4.ho hC3;have hsp4:=hsp3.keep hK4 (fun k hk c t fr e=>by rw[List.mem_singleton.1 hk,HP3.out] at e;cases e;decide);have hg4:w4.cell? ⟨0,0,none⟩=some qB5:=(hK4.cell (a:=⟨0,0,none⟩) (by show 0<w3.heap.size;omega) (by simp;omega)).trans hg3;clear hT3 hB3 hC3 hsp3 hg3;refine (qD9 .nilIface none w4 hg4 rfl).mono ?_;rintro e w5 ⟨rfl,hK5⟩;have hT5:=hK5.hp hT4;have hB5:=hK5.hp hB4;have hC5:=hK5.hp hC4;have hP5:=hK5.hp hP4;have hsp5:=hsp4.keep0 hK5;have HK35:Hid (Kp [w0.heap.size] w3 w5):=hK4.tr hK5;have hT5s:=ζ hT5;have hB5s:=ζ hB5;have hC5s:=ζ hC5;have hP5s:=ζ hP5;have HC5:=zh hC5;have HT5:=zh hT5;have b10:=ξ hB5 10;simp only[kob,zG,zH,zI] at b10;rw[HI.out.po] at b10;have t1:=ξ hT5 1;have t3:=ξ hT5 3;have t7:=ξ hT5 7;simp only[tob,zG,zH,zI] at t1 t3 t7;rw[HVV.out] at t1;rw[HDN.out] at t3;have z0:=ξ hP5;have c1:=ξ hC5 1;have c2:=ξ hC5 2;have c3:=ξ hC5 3;simp only[ι,zG,zH,zI] at c1 c2 c3;have fc1:=ρ hC5;rw[HON.out.1] at c2;rw[HON.out.2] at c3;have HSP5:Hid (SPR w5 (.slice vb m vc) ps):=by rw[←HVV.out];exact hsp5
  clear hT4 hB4 hC4 hsp4 hg4 hP4 hK4 hT5 hB5 hC5 hP5 hsp5 hK5
  go_wp2_with (go_at_call 127;refine (qC3 _ _).mono ?_;rintro e w5 ⟨rfl,rfl⟩)
  go_quiet (fail)
  by_cases hneg:to<0
  ·go_wp2;go_ret;have hend:=HC5.out;have hK:Kp [w0.heap.size,cb] w3 (((w5.setCell ⟨cb,1,none⟩ (.string ⟨#[]⟩)).setCell ⟨cb,2,none⟩ (.bool false)).setCell ⟨cb,3,none⟩ (.int .i64 f.stp)):=((((HK35.out.mono (S':=[w0.heap.size,cb]) (by simp +contextual)).sc _).sc _).sc _);exact⟨rfl,w2,w3,w0.heap.size,HK2.out,HR.out.1,HR.out.2,Nat.le_refl _,μ (μ (μ hend 1 _) 2 _) 3 _,by first | exact hK | exact hK.drewN _ | exact hK.drew⟩
  ·have hge:(m:Int)≤to:=by
    have h:=HO.out;rw[if_neg hneg] at h;have h2:=List.getElem?_eq_none_iff.1 h.symm;have h3:=HM.out;omega
   go_wp2;go_ret;have hend:=HC5.out;have hK:Kp [w0.heap.size,cb] w3 (((w5.setCell ⟨cb,1,none⟩ (.string ⟨#[]⟩)).setCell ⟨cb,2,none⟩ (.bool false)).setCell ⟨cb,3,none⟩ (.int .i64 f.stp)):=((((HK35.out.mono (S':=[w0.heap.size,cb]) (by simp +contextual)).sc _).sc _).sc _);exact⟨rfl,w2,w3,w0.heap.size,HK2.out,HR.out.1,HR.out.2,Nat.le_refl _,μ (μ (μ hend 1 _) 2 _) 3 _,by first | exact hK | exact hK.drewN _ | exact hK.drew⟩
 | some p=>
  simp only[pkv,Option.isSome_some];go_wp2_with fail;rw[hw];clear hw;have hts:=qB2 (.string p.k) (.string p.v) HP3.out;obtain⟨w4,hw4,hP4,hK4⟩:∃ w4,w4=(w3.setCell ⟨w0.heap.size,0,none⟩ (.string p.k)).setCell ⟨w0.heap.size,1,none⟩ (.string p.v)∧w4.heap[w0.heap.size]?=some (.cells #[.string p.k,.string p.v] 42)∧Kp [w0.heap.size] w3 w4:=⟨_,rfl,hts.1,hts.2⟩;rw[←hw4];clear hw4 hts z0 fz0;have hT4:=hK4.ho hT3;have hB4:=hK4.ho hB3;have hC4:=hK4.ho hC3;have hsp4:=hsp3.keep hK4 (fun k hk c t fr e=>by rw[List.mem_singleton.1 hk,HP3.out] at e;cases e;decide);have hg4:w4.cell? ⟨0,0,none⟩=some qB5:=(hK4.cell (a:=⟨0,0,none⟩) (by show 0<w3.heap.size;omega) (by simp;omega)).trans hg3;clear hT3 hB3 hC3 hsp3 hg3;refine (qD9 .nilIface none w4 hg4 rfl).mono ?_;rintro e w5 ⟨rfl,hK5⟩;have hT5:=hK5.hp hT4;have hB5:=hK5.hp hB4;have hC5:=hK5.hp hC4;have hP5:=hK5.hp hP4;have hsp5:=hsp4.keep0 hK5;have HK35:Hid (Kp [w0.heap.size] w3 w5):=hK4.tr hK5;have hT5s:=ζ hT5;have hB5s:=ζ hB5;have hC5s:=ζ hC5;have hP5s:=ζ hP5;have HC5:=zh hC5;have HT5:=zh hT5;have b10:=ξ hB5 10;simp only[kob,zG,zH,zI] at b10;rw[HI.out.po] at b10;have t1:=ξ hT5 1;have t3:=ξ hT5 3;have t7:=ξ hT5 7;simp only[tob,zG,zH,zI] at t1 t3 t7;rw[HVV.out] at t1;rw[HDN.out] at t3;have z0:=ξ hP5;have c1:=ξ hC5 1;have c2:=ξ hC5 2;have c3:=ξ hC5 3;simp only[ι,zG,zH,zI] at c1 c2 c3;have fc1:=ρ hC5;rw[HON.out.1] at c2;rw[HON.out.2] at c3;have HSP5:Hid (SPR w5 (.slice vb m vc) ps):=by rw[←HVV.out];exact hsp5
  clear hT4 hB4 hC4 hsp4 hg4 hP4 hK4 hT5 hB5 hC5 hP5 hsp5 hK5;obtain⟨i,hi,hpi⟩:∃ i:Nat,to=(i:Int)∧ps[i]?=some p:=by
   have h:=HO.out;by_cases hneg:to<0
   ·rw[if_pos hneg] at h;cases h
   ·rw[if_neg hneg] at h;exact⟨to.toNat,by omega,h.symm⟩
  subst hi;have HPE:Hid (p.k.toList.isEmpty=false):=qQ9 (HOK.out p (List.mem_of_getElem? hpi)).1;have hpe:=HPE.out;obtain⟨hl0,hpx⟩:=List.getElem?_eq_some_iff.1 hpi;have hmi:(i:Int)<(m:Int):=by have:=HM.out;omega
  have hng:¬(i:Int)<0:=by omega
  have hnge:¬(m:Int)≤(i:Int):=by omega
  go_wp2_with (go_at_call 127;refine (qC3 _ _).mono ?_;rintro e w5 ⟨rfl,rfl⟩)
  go_quiet (fail)
  obtain⟨gp,off,cap,cur,fr,hvs,hcap,hgrow,hcur⟩:=HSP5.out.at (by omega);simp only[Value.slice.injEq] at hvs;obtain⟨rfl,hmm,rfl⟩:=hvs;clear hmm;obtain⟨a0,a1⟩:=hcur i hl0;rw[hpx] at a0 a1;have q0:=ξ hgrow (off+i*2);rw[a0] at q0;have q1:=ξ hgrow (off+i*2+1);rw[a1] at q1;have hgs:=ζ hgrow;have hgc:gp≠cb:=ω hgrow HC5.out (by decide);have hgt':gp≠tb:=ω hgrow HT5.out (by decide);have htc:tb≠cb:=ω HT5.out HC5.out (by decide);have hpc':w0.heap.size≠cb:=by omega
  clear hgrow hcur a0 a1 hpi hpx;go_wp2_with fail
  go_quiet (fail)
  go_wp2;go_ret;have hend:=HC5.out;refine⟨by simp,w2,w3,w0.heap.size,HK2.out,HR.out.1,HR.out.2,Nat.le_refl _,μ (μ (μ (μ (μ hend 1 _) 2 _) 3 _) 2 _) 1 _,?_⟩;exact ((((((HK35.out.mono (S':=[w0.heap.size,cb]) (by simp +contextual)).drewN _).sc _).sc _).sc _).sc _ |>.sc _ |>.drewN _)
theorem xS7(B tb cb Cb A n C:Nat)(cache:Value)(calls writes:Int)(k:KF)(f:TF)(ps:List KV)(ckey:ByteArray)(con:Bool)(cstp:Int)(key:ByteArray)(o:Option KV)(to:Int)(S:List Nat)(R:World→Prop)(w:World)(hI:LkIn w B tb A n C cache calls writes k f ps)(hP:ProgS w S)(hlt:∀ k∈S,k<w.heap.size)(hC:w.heap[cb]?=some (ι Cb ckey con cstp))(hdn:f.dn=false)(hon:con=true)(hstp:cstp=f.stp)(hto:((qA0 ps ckey:Nat):Int)-1=to)(ho:o=if to<0 then none else ps[to.toNat]?)(hok:∀ q∈ps,qE0 q)
  (hcall:∀ W,Kp [] w W→Calls prog 26 #[.pointer (some ⟨Cb,0,none⟩)] W fun e w'=>e=.returned (.tuple #[.agg #[.string (pkv o).k,.string (pkv o).v],.bool o.isSome,.nilIface])∧R w'∧Kp S W w'):
  Calls prog 137 #[.pointer (some ⟨B,0,none⟩),.pointer (some ⟨tb,0,none⟩),.pointer (some ⟨cb,0,none⟩),.int .i64 4,.string key] w fun e w'=>e=.returned (.bool true)∧qQ4 cb Cb (pkv o).k o.isSome f.stp R S w w':=by
 have HDN:=zh hdn;have HO:=zh ho;have HOK:=zh hok;have HTO:=zh hto;have HON:Hid (con=true∧cstp=f.stp):=⟨hon,hstp⟩;clear hdn ho hok hto hon hstp;have HLT:=zh hlt;clear hlt;have hBs:=ζ hI.hB;have hTs:=ζ hI.hT;have hAs:=ζ hI.hA;have hCs:=ζ hC;have HI:=zh hI;have HP:=zh hP;have HC:=zh hC;have hB:=hI.hB;have hT:=hI.hT;have hkA:=hI.kA;obtain⟨vb,vc,hvv⟩:=hI.sp.form;obtain⟨m,hm⟩:∃ m,ps.length=m:=⟨_,rfl⟩;rw[hm] at hvv;have HM:=zh hm;have HVV:=zh hvv;have b0:=ξ hB 0;simp only[kob,zG,zH,zI] at b0;rw[hkA] at b0;have HCALL:=hcall;clear hI hP hC hB hT hkA hcall hvv hm;go_enter func137,ntmps137;go_wp2_with fail;refine (qE6 A n C cache calls writes w HI.out.hA).mono ?_;rintro e w0 ⟨rfl,rfl⟩;have hT0:=η (.cells #[.string ⟨#[]⟩,.string ⟨#[]⟩] 42) HI.out.hT;have t1:=ξ hT0 1;simp only[tob,zG,zH,zI] at t1;rw[HVV.out] at t1;clear b0;go_wp2_with fail;clear t1 hT0;obtain⟨wa,hwa,hPa,hKa,hsa⟩:=qH9 w0 (.cells #[.string ⟨#[]⟩,.string ⟨#[]⟩] 42);rw[←hwa];clear hwa;have hTa:=hKa.hp HI.out.hT;have hCa:=hKa.hp HC.out;have hSd:wa.drew.heap[tb]?=some (tob f)∧wa.drew.heap[cb]?=some (ι Cb ckey con cstp):=⟨hTa,hCa⟩;refine wp_region_held_drew (S:=fun W=>W.heap[tb]?=some (tob f)∧W.heap[cb]?=some (ι Cb ckey con cstp)) (by kernel_rfl) hSd (fun _=>?_);refine zP 0 tb 0 hSd ?_;refine zP 1 tb 0 hSd ?_;refine zP 2 tb 1 hSd ?_;refine zP 3 tb 1 hSd ?_;refine zV 4 (.agg #[.slice vb m vc]) rfl (fun W hS=>by have c:=ξ hS.1 1;simp only[tob,zG,zH,zI] at c;rw[HVV.out] at c;clear hS;go_simp) hSd ?_;refine zP 5 cb 0 hSd ?_;refine zP 6 cb 0 hSd ?_;refine zP 7 cb 1 hSd ?_;refine zP 8 cb 1 hSd ?_;refine zV 9 (.string ckey) rfl (fun W hS=>by have c:=ξ hS.2 1;simp only[ι,zG,zH,zI] at c;clear hS;go_simp) hSd ?_;refine zq 10 fun K hK=>?_;go_simp;have hspd:SPR wa.drew (.slice vb m vc) ps:=by rw[←HVV.out];exact HI.out.sp.keep0 (hKa.drew)
 refine (qI5 (.slice vb m vc) ps ckey wa.drew hspd (by have:=HI.out.sz;omega)).mono ?_;rintro e w2 ⟨rfl,hK2⟩;have hKw2:Kp [] w0 w2:=(hKa.drew).tr hK2;have hPw2:w2.heap[w0.heap.size]?=some (.cells #[.string ⟨#[]⟩,.string ⟨#[]⟩] 42):=hK2.heap (w:=wa.drew) hPa (by simp);have hT2:=hKw2.hp HI.out.hT;have hC2:=hKw2.hp HC.out;have hS2:w2.heap[tb]?=some (tob f)∧w2.heap[cb]?=some (ι Cb ckey con cstp):=⟨hT2,hC2⟩;refine hK.out _ _ hS2 (fun _=>?_);clear hK K hSd hspd
 try simp only[zZ]
 refine zU 11 (.int .i64 (qA0 ps ckey:Nat)) hS2 ?_;refine zd ?_;have HK2:=zh hKw2;have HP2:=zh hPw2;have hC2s:=ζ hC2;have hT2s:=ζ hT2;have c0:=ξ hC2 0;simp only[ι,zG,zH,zI] at c0;clear hS2 hK2 hKw2 hPw2 hTa hCa hKa hPa hT2 hC2;have hw:wrap64 (((qA0 ps ckey:Nat):Int)-1)=to:=by
  have h1:=HTO.out;have h2:=HI.out.sz;have h3:=HM.out;have h4:=qO6 ps ckey;simp only[wrap64];omega
 go_wp2_with fail;refine (HCALL w2 HK2.out).mono ?_;rintro e w3 ⟨rfl,hR,hK3⟩;have hP2s:=ζ HP2.out;have hQ:=HP.out.more HK2.out HLT.out;have hT3:=hQ.stay hK3 (HK2.out.hp HI.out.hT) (by decide);have hB3:=hQ.stay hK3 (HK2.out.hp HI.out.hB) (by decide);have hC3:=hQ.stay hK3 (HK2.out.hp HC.out) (by decide);have hP3:=hQ.stay hK3 HP2.out (by decide);have hsp3:=(HI.out.sp.keep0 HK2.out).keep hK3 (hQ.apt (by decide));have hg3:=hQ.g0 hK3 ((HK2.out.cell (a:=⟨0,0,none⟩) (by show 0<w0.heap.size;omega) (by simp)).trans HI.out.g0) (by omega);have HR:Hid (R w3∧Kp S w2 w3):=⟨hR,hK3⟩;have hP3s:=ζ hP3;have z0:=ξ hP3;have fz0:=ρ hP3;have HP3:=zh hP3;clear hR hK3 hP3 c0 hQ
 cases o with
 | none=>
  simp only[pkv,Option.isSome_none];go_wp2_with fail;rw[hw];clear hw;have hts:=qB2 (.string ⟨#[]⟩) (.string ⟨#[]⟩) HP3.out;obtain⟨w4,hw4,hP4,hK4⟩:∃ w4,w4=(w3.setCell ⟨w0.heap.size,0,none⟩ (.string ⟨#[]⟩)).setCell ⟨w0.heap.size,1,none⟩ (.string ⟨#[]⟩)∧w4.heap[w0.heap.size]?=some (.cells #[.string ⟨#[]⟩,.string ⟨#[]⟩] 42)∧Kp [w0.heap.size] w3 w4:=⟨_,rfl,hts.1,hts.2⟩;rw[←hw4];clear hw4 hts z0 fz0;have hT4:=hK4.ho hT3;have hB4:=hK4.ho hB3;have hC4:=hK4.ho hC3;have hsp4:=hsp3.keep hK4 (fun k hk c t fr e=>by rw[List.mem_singleton.1 hk,HP3.out] at e;cases e;decide);have hg4:w4.cell? ⟨0,0,none⟩=some qB5:=(hK4.cell (a:=⟨0,0,none⟩) (by show 0<w3.heap.size;omega) (by simp;omega)).trans hg3;clear hT3 hB3 hC3 hsp3 hg3;refine (qD9 .nilIface none w4 hg4 rfl).mono ?_;rintro e w5 ⟨rfl,hK5⟩;have hT5:=hK5.hp hT4;have hB5:=hK5.hp hB4;have hC5:=hK5.hp hC4;have hP5:=hK5.hp hP4;have hsp5:=hsp4.keep0 hK5;have HK35:Hid (Kp [w0.heap.size] w3 w5):=hK4.tr hK5;have hT5s:=ζ hT5;have hB5s:=ζ hB5;have hC5s:=ζ hC5;have hP5s:=ζ hP5;have HC5:=zh hC5;have HT5:=zh hT5;have b10:=ξ hB5 10;simp only[kob,zG,zH,zI] at b10;rw[HI.out.po] at b10;have t1:=ξ hT5 1;have t3:=ξ hT5 3;have t7:=ξ hT5 7;simp only[tob,zG,zH,zI] at t1 t3 t7;rw[HVV.out] at t1;rw[HDN.out] at t3;have z0:=ξ hP5;have c1:=ξ hC5 1;have c2:=ξ hC5 2;have c3:=ξ hC5 3;simp only[ι,zG,zH,zI] at c1 c2 c3;have fc1:=ρ hC5;rw[HON.out.1] at c2;rw[HON.out.2] at c3;have HSP5:Hid (SPR w5 (.slice vb m vc) ps):=by rw[←HVV.out];exact hsp5
  clear hT4 hB4 hC4 hsp4 hg4 hP4 hK4 hT5 hB5 hC5 hP5 hsp5 hK5
  go_wp2_with (go_at_call 127;refine (qC3 _ _).mono ?_;rintro e w5 ⟨rfl,rfl⟩)
  go_quiet (fail)
  by_cases hneg:to<0
  ·go_wp2;go_ret;have hend:=HC5.out;have hK:Kp [w0.heap.size,cb] w3 (((w5.setCell ⟨cb,1,none⟩ (.string ⟨#[]⟩)).setCell ⟨cb,2,none⟩ (.bool false)).setCell ⟨cb,3,none⟩ (.int .i64 f.stp)):=((((HK35.out.mono (S':=[w0.heap.size,cb]) (by simp +contextual)).sc _).sc _).sc _);exact⟨rfl,w2,w3,w0.heap.size,HK2.out,HR.out.1,HR.out.2,Nat.le_refl _,μ (μ (μ hend 1 _) 2 _) 3 _,by first | exact hK | exact hK.drewN _ | exact hK.drew⟩
  ·have hge:(m:Int)≤to:=by
    have h:=HO.out;rw[if_neg hneg] at h;have h2:=List.getElem?_eq_none_iff.1 h.symm;have h3:=HM.out;omega
   go_wp2;go_ret;have hend:=HC5.out;have hK:Kp [w0.heap.size,cb] w3 (((w5.setCell ⟨cb,1,none⟩ (.string ⟨#[]⟩)).setCell ⟨cb,2,none⟩ (.bool false)).setCell ⟨cb,3,none⟩ (.int .i64 f.stp)):=((((HK35.out.mono (S':=[w0.heap.size,cb]) (by simp +contextual)).sc _).sc _).sc _);exact⟨rfl,w2,w3,w0.heap.size,HK2.out,HR.out.1,HR.out.2,Nat.le_refl _,μ (μ (μ hend 1 _) 2 _) 3 _,by first | exact hK | exact hK.drewN _ | exact hK.drew⟩
 | some p=>
  simp only[pkv,Option.isSome_some];go_wp2_with fail;rw[hw];clear hw;have hts:=qB2 (.string p.k) (.string p.v) HP3.out;obtain⟨w4,hw4,hP4,hK4⟩:∃ w4,w4=(w3.setCell ⟨w0.heap.size,0,none⟩ (.string p.k)).setCell ⟨w0.heap.size,1,none⟩ (.string p.v)∧w4.heap[w0.heap.size]?=some (.cells #[.string p.k,.string p.v] 42)∧Kp [w0.heap.size] w3 w4:=⟨_,rfl,hts.1,hts.2⟩;rw[←hw4];clear hw4 hts z0 fz0;have hT4:=hK4.ho hT3;have hB4:=hK4.ho hB3;have hC4:=hK4.ho hC3;have hsp4:=hsp3.keep hK4 (fun k hk c t fr e=>by rw[List.mem_singleton.1 hk,HP3.out] at e;cases e;decide);have hg4:w4.cell? ⟨0,0,none⟩=some qB5:=(hK4.cell (a:=⟨0,0,none⟩) (by show 0<w3.heap.size;omega) (by simp;omega)).trans hg3;clear hT3 hB3 hC3 hsp3 hg3;refine (qD9 .nilIface none w4 hg4 rfl).mono ?_;rintro e w5 ⟨rfl,hK5⟩;have hT5:=hK5.hp hT4;have hB5:=hK5.hp hB4;have hC5:=hK5.hp hC4;have hP5:=hK5.hp hP4;have hsp5:=hsp4.keep0 hK5;have HK35:Hid (Kp [w0.heap.size] w3 w5):=hK4.tr hK5;have hT5s:=ζ hT5;have hB5s:=ζ hB5;have hC5s:=ζ hC5;have hP5s:=ζ hP5;have HC5:=zh hC5;have HT5:=zh hT5;have b10:=ξ hB5 10;simp only[kob,zG,zH,zI] at b10;rw[HI.out.po] at b10;have t1:=ξ hT5 1;have t3:=ξ hT5 3;have t7:=ξ hT5 7;simp only[tob,zG,zH,zI] at t1 t3 t7;rw[HVV.out] at t1;rw[HDN.out] at t3;have z0:=ξ hP5;have c1:=ξ hC5 1;have c2:=ξ hC5 2;have c3:=ξ hC5 3;simp only[ι,zG,zH,zI] at c1 c2 c3;have fc1:=ρ hC5;rw[HON.out.1] at c2;rw[HON.out.2] at c3;have HSP5:Hid (SPR w5 (.slice vb m vc) ps):=by rw[←HVV.out];exact hsp5
  clear hT4 hB4 hC4 hsp4 hg4 hP4 hK4 hT5 hB5 hC5 hP5 hsp5 hK5;obtain⟨i,hi,hpi⟩:∃ i:Nat,to=(i:Int)∧ps[i]?=some p:=by
   have h:=HO.out;by_cases hneg:to<0
   ·rw[if_pos hneg] at h;cases h
   ·rw[if_neg hneg] at h;exact⟨to.toNat,by omega,h.symm⟩
  subst hi;have HPE:Hid (p.k.toList.isEmpty=false):=qQ9 (HOK.out p (List.mem_of_getElem? hpi)).1;have hpe:=HPE.out;obtain⟨hl0,hpx⟩:=List.getElem?_eq_some_iff.1 hpi;have hmi:(i:Int)<(m:Int):=by have:=HM.out;omega
  have hng:¬(i:Int)<0:=by omega
  have hnge:¬(m:Int)≤(i:Int):=by omega
  go_wp2_with (go_at_call 127;refine (qC3 _ _).mono ?_;rintro e w5 ⟨rfl,rfl⟩)
  go_quiet (fail)
  obtain⟨gp,off,cap,cur,fr,hvs,hcap,hgrow,hcur⟩:=HSP5.out.at (by omega);simp only[Value.slice.injEq] at hvs;obtain⟨rfl,hmm,rfl⟩:=hvs;clear hmm;obtain⟨a0,a1⟩:=hcur i hl0;rw[hpx] at a0 a1;have q0:=ξ hgrow (off+i*2);rw[a0] at q0;have q1:=ξ hgrow (off+i*2+1);rw[a1] at q1;have hgs:=ζ hgrow;have hgc:gp≠cb:=ω hgrow HC5.out (by decide);have hgt':gp≠tb:=ω hgrow HT5.out (by decide);have htc:tb≠cb:=ω HT5.out HC5.out (by decide);have hpc':w0.heap.size≠cb:=by omega
  clear hgrow hcur a0 a1 hpi hpx;go_wp2_with fail
  go_quiet (fail)
  go_wp2;go_ret;have hend:=HC5.out;refine⟨by simp,w2,w3,w0.heap.size,HK2.out,HR.out.1,HR.out.2,Nat.le_refl _,μ (μ (μ (μ (μ hend 1 _) 2 _) 3 _) 2 _) 1 _,?_⟩;exact ((((((HK35.out.mono (S':=[w0.heap.size,cb]) (by simp +contextual)).drewN _).sc _).sc _).sc _).sc _ |>.sc _ |>.drewN _)
end Go.Proofs.YtdohpenfkdckiaaGreatDoor
