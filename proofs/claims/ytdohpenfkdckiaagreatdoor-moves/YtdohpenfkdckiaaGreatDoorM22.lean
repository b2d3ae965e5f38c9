import Derived.Test.YtdohpenfkdckiaaGreatDoorM21
set_option linter.all false
set_option maxRecDepth 100000
set_option maxHeartbeats 20000000
namespace Go.Proofs.YtdohpenfkdckiaaGreatDoor.Gm
open Go.Proofs.Tryz
open Go.RowKit
open Go.ChangeMaps
open Gw (TK Books qH7 qH0 Muts MutC DInv SG qA8 qE1 qI1 DStep qG3 qC6 qI7 DOps qV0 SFits)
theorem TOk.lock{base:Nat}{T T':Int}{w w':World}{g:TG}{q:SG}{L:List Nat}(h:TOk base T w g)(e1:g.so=some q)(e2:g.d.x=some ⟨q.Db,0,none⟩)(hS:SOk base T w g.d.A g.d.n q g.ys)(hY:∀ y∈g.ys,YOk base T w q.St q.V y)(hK:Kp L w w')(hL:∀ k∈L,k=q.St)(hT:T≤T')(h1:w'.heap[q.St]?=some (ν 0 q.s)):DStep qC1 base T' w w' g:=by
 obtain⟨es,mc,hM⟩:=Gen.RM.obj hS.rm;have hMut:Muts base [169] w L:=fun k hk=>by
  rw[hL k hk];exact⟨hS.bSt,_,hS.hSt,fun c t fr e=>by cases e;decide⟩
 refine⟨g,L,?_,rfl,fun k hk=>.inl hk,hK,fun k hk=>qB4.2 (.inr (.inr (.inr (.inr (.inl (by rw[e1];simp[qE1,hL k hk]))))))⟩;refine⟨Gw.DOk.kp h.d hK hT (hMut.not h.d.hB (by decide)) (hMut.not h.d.hA (by decide)) (hMut.not h.d.hC (by decide)) (hMut.apt (by decide)),Gw.Held.kp h.held hK (fun k hk=>?_) (fun k hk=>?_) (hMut.apt (by decide)),by have:=h.hlen;omega,fun x hx=>by have:=h.hps x hx;omega,?_,by have:=h.ylen;omega,.inr ⟨q,e1,e2,hS.same hK hT h1 (fun hm=>?_) (hMut.apt (by decide)) rfl,fun y hy=>?_⟩,h.sep⟩
 ·obtain⟨_,c,h2⟩:=qD4 h.held.li k (by simpa using hk);exact hMut.not h2 (by decide)
 ·obtain⟨_,c,h2⟩:=qD4 h.held.wa k (by simpa using hk);exact hMut.not h2 (by decide)
 ·refine qI1 h.row hK (fun k hk=>?_);obtain⟨_,c,h2⟩:=qD4 h.row k (by simp[show g.d.ts.ownBlock=some k from hk]);exact hMut.not h2 (by decide)
 ·rw[hL _ hm,hS.hSt] at hM;cases hM
 ·have hy':=hY y hy;refine hy'.kp hK hT (fun k hk hm=>?_) (hMut.apt (by decide));obtain⟨_,c,t,fr,b2,b3⟩:=hy'.yMut k hk;exact (hMut.apt (Us:=yTs) (by decide)) k hm _ _ _ b2 b3
theorem xA6(base:Nat)(T:Int)(w:World)(g:TG)(h:TOk base T w g)(hT0:0≤T)(hT:T≤40000)(hb:0<base)(hbs:base≤w.heap.size)(hg:w.cell? ⟨0,0,none⟩=some qB5)(hx:g.d.x≠none)(wrt:Bool):
  Calls prog 82 #[.pointer (some ⟨g.d.B,0,none⟩),.bool wrt] w fun e w'=>e=.returned (.bool true)∧DStep qC1 base (T+2) w w' g:=by
 obtain⟨q,e1,e2,hS,hY⟩:=h.store hx;obtain⟨es,mc,hM⟩:=Gen.RM.obj hS.rm;have hyl:=h.ylen;have hMS:q.M≠q.St:=fun e=>qG3 hS.hSt hM e.symm;have hDS:q.Db≠q.St:=ω hS.hD hS.hSt (by decide);have hDM:q.Db≠q.M:=qG3 hS.hD hM;have hsV:=hS.sV;have hsM:=hS.sM;have hbg0:=hS.bg0;have hbg1:=hS.bg1;have hnM:=hS.nM;have hrm:=hS.rm;have hTF:TFs w (qA8 g.d) (qB8 g) (qE9 g.ys):=⟨PRow.of h.row,by simp[qB8,qE9],fun j h1 h2=>by
  have hj:j<g.ys.length:=by simpa [qB8] using h1
  have hyj:=hY _ (List.getElem_mem hj);obtain⟨b,c,e⟩:=hyj.sp.form;exact⟨by simpa [qB8,qE9] using hyj.hT,b,c,by simpa [qE9] using e⟩⟩
 have hI:BgIn w g.d.B g.d.A g.d.n g.d.C (.slice none 0 0) g.d.calls g.d.writes (qA8 g.d) q.Db base (qB8 g) (qE9 g.ys) none 0 0:=⟨h.d.hB,rfl,rfl,h.d.hA,e2,rfl,hTF,h.row,hbs,by simp[qB8];omega,hg⟩;have hP1:ProgS w [q.St]:=fun k hk=>by
  simp at hk;subst hk;exact⟨by have:=hS.bSt;omega,fun c t fr e=>by rw[hS.hSt] at e;cases e;decide⟩
 have hP2:ProgS w [q.St,q.M]:=fun k hk=>by
  simp only[List.mem_cons,List.not_mem_nil,or_false] at hk;rcases hk with rfl|rfl
  ·exact hP1 _ (by simp)
  ·exact⟨by have:=hS.bM;omega,fun c t fr e=>by rw[hM] at e;cases e⟩
 have hbw:=zA5 true g.ys hY;have hbr:=zA5 false g.ys hY;have hsz:=hS.bk.size;have hfour:=hS.bk.four;have hq:∀ w',qP0 (fun w1=>w1.heap[q.St]?=some (ν 0 q.s)) [q.St] w w'→DStep qC1 base (T+2) w w' g:=fun w' ⟨w1,b,c,d⟩=>h.lock e1 e2 hS hY (c.tr d) (by simp) (by omega) (d.hp b)
 cases wrt with
 | true=>
  by_cases hw:q.s.wr=0
  ·refine (zI2 g.d.B g.d.A g.d.n g.d.C (.slice none 0 0) g.d.calls g.d.writes (qA8 g.d) q.Db base (qB8 g) (qE9 g.ys) none 0 0 true none rfl [q.St,q.M] (fun xo w1=>∃ x,xo=some ⟨x,0,none⟩∧w.heap.size≤x∧w1.heap[x]?=some (χ ⟨q.St,q.s.bg+1,true,false,some ⟨q.V,0,none⟩,⟨⟨#[]⟩,0,0,none⟩,0⟩)∧w1.heap[q.St]?=some (ν 0 q.s.wrote)∧RM w1 q.V q.M q.nM q.D) w hI hP2 (fun xo w1 ⟨x,e,_⟩=>⟨x,e⟩) (.inl ⟨rfl,by rw[hbw];exact hS.bk.busyW.1 hw⟩) ((xB1 q.Db q.St q.nM q.s q.D w hS.hD hS.hSt (by rw[hsV,hsM];exact hrm) hS.po hDS (by rw[hsM];exact hMS) (by rw[hsM];exact ζ hM) hw hbg0 (by omega)).mono ?_)).mono fun e w' ⟨a,b⟩=>⟨a,h.born (q':={ q with s:=q.s.wrote }) hb hbs hT0 e1 e2 hS hY rfl rfl rfl rfl (Nat.le_succ _) rfl rfl hS.po rfl rfl rfl rfl (hS.bk.born_write hw hbg0) b⟩;rintro e w' ⟨x,rfl,c1,c2,c3,c4,c5⟩;rw[hsV,hS.rb,hS.rs] at c2;rw[hsV,hsM] at c4;exact⟨_,_,rfl,rfl,⟨x,rfl,c1,c2,c3,c4⟩,c5.mono (fun k hk _=>by simp at hk;simp[hk])⟩
  ·refine (zI1 g.d.B g.d.A g.d.n g.d.C (.slice none 0 0) g.d.calls g.d.writes (qA8 g.d) q.Db base (qB8 g) (qE9 g.ys) none 0 0 true (some 4) rfl [q.St] (fun xo w1=>xo=none∧w1.heap[q.St]?=some (ν 0 q.s)) w hI hP1 (fun xo w1 h=>h.1) (.inl ⟨rfl,by rw[hbw];exact Nat.pos_of_ne_zero (fun e=>hw (hS.bk.busyW.2 e))⟩) ((xB0 q.Db q.St q.s w hS.hD hS.hSt hS.po hDS hw).mono ?_)).mono fun e w' ⟨a,w1,b,c,d⟩=>⟨a,hq w' ⟨w1,b.2,c,d⟩⟩;rintro e w' ⟨v,rfl,c1,c2,c3⟩;exact⟨none,v,rfl,c1,⟨rfl,c2⟩,c3⟩
 | false=>
  by_cases hw:Maps.size q.D<4
  ·refine (zI2 g.d.B g.d.A g.d.n g.d.C (.slice none 0 0) g.d.calls g.d.writes (qA8 g.d) q.Db base (qB8 g) (qE9 g.ys) none 0 0 false none rfl [q.St,q.M] (fun xo w1=>∃ x,xo=some ⟨x,0,none⟩∧w.heap.size≤x∧w1.heap[x]?=some (χ ⟨q.St,q.s.bg+1,false,false,some ⟨q.V,0,none⟩,⟨⟨#[]⟩,0,0,none⟩,0⟩)∧w1.heap[q.St]?=some (ν 0 q.s.read)∧RM w1 q.V q.M (q.nM+1) (q.D.put (qC8 (q.s.bg+1)) (qN3 ⟨⟨#[]⟩,0,0,none⟩))) w hI hP2 (fun xo w1 ⟨x,e,_⟩=>⟨x,e⟩) (.inr ⟨rfl,by rw[hbr,←hsz];exact hw⟩) ((zI0 q.Db q.St q.nM q.s q.D w hS.hD hS.hSt (by rw[hsV,hsM];exact hrm) hS.po hDS (by rw[hsM];exact hMS) (by rw[hsM];exact hDM) (by rw[hsM];exact ζ hM) hw (by omega) hbg0 (by omega)).mono ?_)).mono fun e w' ⟨a,b⟩=>⟨a,h.born (q':={ q with s:=q.s.read,nM:=q.nM+1,D:=q.D.put (qC8 (q.s.bg+1)) (qN3 ⟨⟨#[]⟩,0,0,none⟩) }) hb hbs hT0 e1 e2 hS hY rfl rfl rfl rfl (Nat.le_refl _) rfl rfl hS.po rfl rfl rfl rfl (hS.bk.born_read (World.ownsMap.tidy hrm qW8) hbg0 hw) b⟩;rintro e w' ⟨x,rfl,c1,c2,c3,c4,c5⟩;rw[hsV,hS.rb,hS.rs] at c2;rw[hsV,hsM,hS.rb,hS.rs] at c4;rw[hsM] at c5;exact⟨_,_,rfl,rfl,⟨x,rfl,c1,c2,c3,c4⟩,c5⟩
  ·have h4:Maps.size q.D=4:=by omega
   refine (zI1 g.d.B g.d.A g.d.n g.d.C (.slice none 0 0) g.d.calls g.d.writes (qA8 g.d) q.Db base (qB8 g) (qE9 g.ys) none 0 0 false (some 4) rfl [q.St] (fun xo w1=>xo=none∧w1.heap[q.St]?=some (ν 0 q.s)) w hI hP1 (fun xo w1 h=>h.1) (.inr ⟨rfl,by rw[hbr,←hsz];exact h4⟩) ((xA9 q.Db q.St q.nM q.s q.D w hS.hD hS.hSt (by rw[hsV,hsM];exact hrm) hS.po hDS (by rw[hsM];exact hMS) h4).mono ?_)).mono fun e w' ⟨a,w1,b,c,d⟩=>⟨a,hq w' ⟨w1,b.2,c,d⟩⟩;rintro e w' ⟨v,rfl,c1,c2,c3⟩;exact⟨none,v,rfl,c1,⟨rfl,c2⟩,c3⟩
def qP9:List Int:=[10,11,12,13,14,15,18,19,20]
theorem xY7(base:Nat)(T:Int)(w:World)(g:TG)(q:SG)(i:Nat)(y:YG)(h:At base T w g q i y)(o:SOp)(hk:o.k=13∨o.k=14∨o.k=15∨o.k=18∨o.k=19∨o.k=20)(hf:SFits o):
  Calls prog 83 #[.pointer (some ⟨g.d.B,0,none⟩),.pointer (some ⟨y.tb,0,none⟩),.agg #[.int .i64 o.k,.int .i64 o.x,.int .i64 o.y,.int .i64 o.a,.int .i64 o.b,.string o.s,.string o.t]] w fun e w'=>e=.returned (.bool true)∧DStep qC1 base (T+2) w w' g:=by
 obtain⟨k,ox,oy,oa,ob,os,ot⟩:=o;have HF:=zh hf;have HA:Hid (At base T (w.alloc (.cells #[.int .i64 k,.int .i64 ox,.int .i64 oy,.int .i64 oa,.int .i64 ob,.string os,.string ot] 66)) g q i y):=h.same ((Kp.refl _ _).alloc _);simp only at hk;clear hf;rcases hk with rfl|rfl|rfl|rfl|rfl|rfl
 ·go_enter func83,ntmps83;go_wp2_with fail;refine (zR7 base T _ g q i y os ot HA.out).mono ?_;rintro e w2 ⟨rfl,hs⟩;have HX:Hid (DStep qC1 base (T+2) w w2 g):=DStep.from ((Kp.refl _ _).alloc _) hs h.ok.muts;clear hs;go_wp2;go_ret;exact⟨rfl,HX.out⟩
 ·go_enter func83,ntmps83;go_wp2_with fail;refine (zL3 base T _ g q i y os ot HA.out).mono ?_;rintro e w2 ⟨rfl,hs⟩;have HX:Hid (DStep qC1 base (T+2) w w2 g):=DStep.from ((Kp.refl _ _).alloc _) hs h.ok.muts;clear hs;go_wp2;go_ret;exact⟨rfl,HX.out⟩
 ·go_enter func83,ntmps83;go_wp2_with fail;refine (qT0 base T _ g q i y os HA.out).mono ?_;rintro e w2 ⟨rfl,hs⟩;have HX:Hid (DStep qC1 base (T+2) w w2 g):=DStep.from ((Kp.refl _ _).alloc _) hs h.ok.muts;clear hs;go_wp2;go_ret;exact⟨rfl,HX.out⟩
 ·go_enter func83,ntmps83;go_wp2_with fail;refine (zW4 base T _ g q i y HA.out).mono ?_;rintro e w2 ⟨rfl,hs⟩;have HX:Hid (DStep qC1 base (T+2) w w2 g):=DStep.from ((Kp.refl _ _).alloc _) hs h.ok.muts;clear hs;go_wp2;go_ret;exact⟨rfl,HX.out⟩
 ·go_enter func83,ntmps83;go_wp2_with fail;refine (jB7 base T _ g q i y HA.out).mono ?_;rintro e w2 ⟨rfl,hs⟩;have HX:Hid (DStep qC1 base (T+2) w w2 g):=DStep.from ((Kp.refl _ _).alloc _) hs h.ok.muts;clear hs;go_wp2;go_ret;exact⟨rfl,HX.out⟩
 ·have HH:=zh h;have HO:Hid ((w.alloc (.cells #[.int .i64 20,.int .i64 ox,.int .i64 oy,.int .i64 oa,.int .i64 ob,.string os,.string ot] 66)).heap[w.heap.size]?=some (.cells #[.int .i64 20,.int .i64 ox,.int .i64 oy,.int .i64 oa,.int .i64 ob,.string os,.string ot] 66)):=κ _ _;have HK:Hid (Kp [] w (w.alloc (.cells #[.int .i64 20,.int .i64 ox,.int .i64 oy,.int .i64 oa,.int .i64 ob,.string os,.string ot] 66))):=(Kp.refl _ _).alloc _;have hT:=h.y.hT;have hTs:=ζ hT;have t8:=ξ hT 8;simp only[tob,zG,zH,zI] at t8;obtain⟨pt,ct,hts,hrow⟩:=PRow.of h.y.crow;have hcl:=h.y.clen;have hT1:=h.T1;have hcb:(qG5 y).length=y.cs.length:=by simp[qG5]
  rw[hcb] at hts;rw[hts] at t8;by_cases hz:y.cs.length=0
  ·have HQ:Hid (DStep qC1 base (T+2) w (w.alloc (.cells #[.int .i64 20,.int .i64 ox,.int .i64 oy,.int .i64 oa,.int .i64 ob,.string os,.string ot] 66)) g):=h.quiet (w1:=w) h.S.hSt (Kp.refl _ _) HK.out;rw[hz] at t8;clear hrow hts hT h;go_enter func83,ntmps83;go_wp2;go_ret;exact⟨rfl,HQ.out⟩
  obtain⟨gt,curt,rfl,hRt,hct⟩:=hrow (by omega);have hz0:¬((y.cs.length:Int)=0):=by omega
  obtain⟨m,hm⟩:∃ m,y.cs.length=m:=⟨_,rfl⟩;rw[hm] at t8 hz0 hz;have hgt:=ζ hRt;have HTS:Hid (y.f.cs=.slice (some ⟨gt,0,none⟩) m ct):=by rw[←hm];exact hts
  have HCT:Hid (∀ i (h:i<m),curt[i]?=some (.pointer (some ⟨(y.cs[i]'(by omega)).cb,0,none⟩))):=fun i h=>by
   have:=hct i (by omega);simp only[qG5,List.getElem_map] at this;exact this
  have HRt:Hid ((w.alloc (.cells #[.int .i64 20,.int .i64 ox,.int .i64 oy,.int .i64 oa,.int .i64 ob,.string os,.string ot] 66)).heap[gt]?=some (.cells curt 203)):=HK.out.hp hRt;have HTB:Hid ((w.alloc (.cells #[.int .i64 20,.int .i64 ox,.int .i64 oy,.int .i64 oa,.int .i64 ob,.string os,.string ot] 66)).heap[y.tb]?=some (tob y.f)):=HK.out.hp hT;have hoa:=HF.out.a;have hob:=HF.out.b;have hm5:m≤100000:=by omega
  simp only at hoa hob;clear hrow hts hT h hct hRt;go_enter func83,ntmps83;go_wp2_with fail;have hb2:∀ V:World,V.heap[y.tb]?=some (tob y.f)→V.cell? ⟨y.tb,8,none⟩=some (.slice (some ⟨gt,0,none⟩) m ct):=fun V hV=>by
   have c:=ξ hV 8;simp only[tob,zG,zH,zI] at c;rw[c,HTS.out]
  obtain⟨W,hW⟩:∃ W,W=w.alloc (.cells #[.int .i64 20,.int .i64 ox,.int .i64 oy,.int .i64 oa,.int .i64 ob,.string os,.string ot] 66):=⟨_,rfl⟩;rw[←hW] at HO HK HRt HTB HA;rw[←hW];have HWs:Hid (W.heap.size=w.heap.size+1):=by show W.heap.size=_;rw[hW];simp
  clear hW;have hS0:W.drew.heap[y.tb]?=some (tob y.f)∧W.drew.heap[w.heap.size]?=some (.cells #[.int .i64 20,.int .i64 ox,.int .i64 oy,.int .i64 oa,.int .i64 ob,.string os,.string ot] 66)∧W.drew.heap[gt]?=some (.cells curt 203):=⟨HTB.out,HO.out,HRt.out⟩;refine wp_region_held_drew (S:=fun W=>W.heap[y.tb]?=some (tob y.f)∧W.heap[w.heap.size]?=some (.cells #[.int .i64 20,.int .i64 ox,.int .i64 oy,.int .i64 oa,.int .i64 ob,.string os,.string ot] 66)∧W.heap[gt]?=some (.cells curt 203)) (by kernel_rfl) hS0 (fun _=>?_);refine zP 0 y.tb 0 hS0 ?_;refine zP 1 y.tb 0 hS0 ?_;refine zP 2 y.tb 8 hS0 ?_;refine zV 3 (.slice (some ⟨gt,0,none⟩) m ct) rfl (fun W hS=>by have c:=hb2 _ hS.1;clear hS;go_simp) hS0 ?_;refine zP 4 w.heap.size 3 hS0 ?_;refine zV 5 (.int .i64 oa) rfl (fun W hS=>by have c:=ξ hS.2.1 3;simp at c;clear hS;go_simp) hS0 ?_;refine zP 6 y.tb 0 hS0 ?_;refine zP 7 y.tb 0 hS0 ?_;refine zP 8 y.tb 8 hS0 ?_;refine zV 9 (.slice (some ⟨gt,0,none⟩) m ct) rfl (fun W hS=>by have c:=hb2 _ hS.1;clear hS;go_simp) hS0 ?_;refine zU 10 (.int .i64 m) hS0 ?_;refine zq 11 fun K hK=>?_;go_simp;refine (qX8 oa m _ hoa.1 hoa.2 (by omega) (by omega)).mono ?_;rintro e w2 ⟨jt,rfl,hjt,rfl⟩;refine hK.out _ _ hS0 (fun _=>?_);clear hK K
  try simp only[zZ]
  refine zU 12 (.pointer (some ⟨gt,jt,none⟩)) hS0 ?_;refine zV 13 (.pointer (some ⟨(y.cs[jt]'(by omega)).cb,0,none⟩)) rfl (fun W hS=>by have c:=ξ hS.2.2 jt;rw[HCT.out jt hjt] at c;clear hS;go_simp) hS0 ?_;refine zU 14 (.pointer (some ⟨(y.cs[jt]'(by omega)).cb,0,none⟩)) hS0 ?_;refine zd ?_;clear hS0 hb2 t8 hgt;go_wp2_with fail;have hS1:W.drew.drew.heap[w.heap.size]?=some (.cells #[.int .i64 20,.int .i64 ox,.int .i64 oy,.int .i64 oa,.int .i64 ob,.string os,.string ot] 66):=HO.out;refine wp_region_held_drew (S:=fun W=>W.heap[w.heap.size]?=some (.cells #[.int .i64 20,.int .i64 ox,.int .i64 oy,.int .i64 oa,.int .i64 ob,.string os,.string ot] 66)) (by kernel_rfl) hS1 (fun _=>?_);refine zP 0 g.d.B 0 hS1 ?_;refine zP 1 y.tb 0 hS1 ?_;refine zU 2 (.pointer (some ⟨(y.cs[jt]'(by omega)).cb,0,none⟩)) hS1 ?_;refine zP 3 w.heap.size 4 hS1 ?_;refine zV 4 (.int .i64 ob) rfl (fun W hS=>by have c:=ξ hS 4;simp at c;clear hS;go_simp) hS1 ?_;refine zP 6 w.heap.size 5 hS1 ?_;refine zV 7 (.string os) rfl (fun W hS=>by have c:=ξ hS 5;simp at c;clear hS;go_simp) hS1 ?_;refine zq 5 fun K hK=>?_;go_simp;refine (qX8 ob 5 _ hob.1 hob.2 (by omega) (by omega)).mono ?_;rintro e w2 ⟨how,rfl,hhow,rfl⟩;refine hK.out _ _ hS1 (fun _=>?_);clear hK K
  try simp only[zZ]
  refine zq 8 fun K hK=>?_;go_simp;refine (xX9 base T _ g q i y (HA.out.same ((Kp.refl [] _).drew.drew)) jt (by omega) how hhow os).mono ?_;rintro e w3 ⟨rfl,hs⟩;have HX:Hid (DStep qC1 base (T+2) w w3 g):=DStep.from HK.out.drew.drew hs HH.out.ok.muts;have hS3:w3.heap[w.heap.size]?=some (.cells #[.int .i64 20,.int .i64 ox,.int .i64 oy,.int .i64 oa,.int .i64 ob,.string os,.string ot] 66):=by
   obtain⟨g',L,_,_,_,hKL,hL⟩:=hs;refine hKL.heap HO.out (fun hm=>?_);have:=HH.out.ok.muts.lt (hL _ hm);omega
  refine hK.out _ _ hS3 (fun _=>?_);clear hK K hs
  try simp only[zZ]
  refine zU 9 (.bool true) hS3 ?_;refine zd ?_;go_wp2;go_ret;exact⟨rfl,HX.out⟩
theorem xV9:DOps qC1 qP9 where
 fmt:=fun base T w g h hT0 hT hb hbs hg=>xJ7 base T w g h hT0 hT hb hbs hg
 opn:=fun base T w g h hT0 hT hb hbs hg=>xZ8 base T w g h hT0 hT hb hbs hg
 beg:=fun base T w g h hT0 hT hb hbs hg hx wrt=>xA6 base T w g h hT0 hT hb hbs hg hx wrt
 txn:=fun base T w g h hT0 hT hb hbs hg hx j hj o hk hkk hf=>by
  obtain⟨q,e1,e2,hS,hY⟩:=TOk.store h hx;have hj':j<g.ys.length:=by simpa [qC1,qB8] using hj
  have hkk':o.k=13∨o.k=14∨o.k=15∨o.k=18∨o.k=19∨o.k=20:=by
   simp only[qP9,List.mem_cons,List.not_mem_nil,or_false] at hkk;omega
  have:=xY7 base T w g q j g.ys[j] ⟨h,hT0,hT,hb,hbs,hg,e1,e2,hS,hY,hj',rfl⟩ o hkk' hf;have e:(qC1.tbs g)[j]=g.ys[j].tb:=by simp[qC1,qB8]
  rw[e];exact this
 looks:=fun base T w g h hT0 hT=>xQ7 base T w g h hT0 hT
theorem xW8:qV0 qC1 qP9:=Gw.jF1 qC1 qP9 (by decide) xV9
theorem xT5(p:Option Addr)(n cap:Nat)(f:Nat→SOp)(w:World)(hS:Script w p n f)(hf:∀ i,i<n→SFits (f i))(h0:0<w.heap.size)(hg:w.cell? ⟨0,0,none⟩=some qB5):
  Calls prog 5 #[.slice p n cap] w fun e w'=>e=.returned (.bool true)∧Kp [] w w':=by
 have hK0:Kp [] w (w.alloc (.cells (qP9.map (.int .i64)).toArray 3)):=(Kp.refl _ _).alloc _;go_enter func5,ntmps5;go_wp2_with fail;refine (Gw.jB3 qP9 9 (by decide) rfl (fun p n cap f w=>Gw.jH2 qC1 qP9 xW8 p n cap f w) p n cap f _ (hS.keep hK0) hf (by simp) ((hK0.cell (a:=⟨0,0,none⟩) h0 (by simp)).trans hg) w.heap.size (κ _ _)).mono ?_;rintro e w1 ⟨rfl,hK1⟩;go_wp2;go_ret;exact⟨rfl,hK0.tr hK1⟩
end Go.Proofs.YtdohpenfkdckiaaGreatDoor.Gm
namespace Go.Proofs.YtdohpenfkdckiaaGreatDoor.Gw
open Go.Proofs.Tryz
open Go Go.ChangeShapes Go.WideShapes Go.RowKit Go.Deep
theorem xT4(os:Os)(started:os.Started)(H:Type)(enc:TypeId × Value→H):
  ReturnsInHanded {} checked os 5 .any (fun w args=>(Rows.movesSpec.pre enc prog f5 [] false w args∧laidMetH prog Rows.movesRow.laid w)∧sizedMet enc prog f5 (OpenSpec.ofChange Rows.movesSpec) false w args)
   (Rows.movesSpec.post enc prog f5 false true false false):=by
 refine returnsInHanded_of_change_and (C:=checked) (X:=fun w _=>laidMetH prog Rows.movesRow.laid w) (fun _ _ _ hh h=>h.of_heap hh) jC6 started (by kernel_rfl) func5 (xT7 os H enc) ?_;intro W base args ds gs before hval0 hW _ _ hL _;have hval:∀ (j:Nat) t v,f5.params[j]?=some t→args[j]?=some v→Value.okWide prog W .any base t v:=hval0;have hW':=hW;obtain⟨p,q,hA0,hV,rfl,_,_⟩:=hW;have hA:DataW.TrodAll enc prog W 0 (fun _=>true) true f5.params.toList args.toList ds p:=hA0;rw[params5] at hA hval;obtain⟨v0,d0,rfl,rfl,h0⟩:=trodAll_one hA;obtain⟨rfl,rfl⟩:=trodVars_none hV;have h0k:=h0;obtain⟨fuel,hf⟩:=h0;clear hA0 hval0;simp only[List.append_nil] at hW';have hlt:∀ x∈p,x.block<W.heap.size:=fun x hx=>by simpa using hW'.lt x hx
 obtain⟨a0,len,cap,rfl⟩:=okWide_slice underlying22 (hval 0 22 v0 rfl rfl);have hg:=xT3 hL;have h0s:0<W.heap.size:=by
  unfold World.cell? at hg
  cases hb:W.heap[0]? with
  | none=>simp[hb] at hg
  | some o=>exact ζ hb
 obtain⟨p',n',cap',f,hc,hS,hfit⟩:=xZ5 (c0:=.slice a0 len cap) (by simpa [Value.cells] using hf);cases hc;have e1:Rows.movesSpec.fn H ([d0]++[])={ results:=[.lit (.bool true)],args:=[d0] }:=by simp[Rows.movesSpec]
 refine (Gm.xT5 a0 len cap f W hS hfit h0s hg).mono fun e W' ⟨he,hK⟩=>?_;subst he;have hb:Below W.heap.size W W':=hK.below (Nat.le_refl _) (by simp);refine⟨_,rfl,_,_,_,[],p,[],hW',?_,?_,?_,hb.frame _,fun h=>by cases h⟩
 ·rw[e1];exact trodAll_mk1 (shut_bool underlying4 true)
 ·rw[e1];exact trodAll_mk1 (Below.trod zO2 (by kernel_rfl) (of_decide_eq_true (by kernel_rfl)) h0k hb hlt)
 ·rw[e1];rfl
end Go.Proofs.YtdohpenfkdckiaaGreatDoor.Gw
