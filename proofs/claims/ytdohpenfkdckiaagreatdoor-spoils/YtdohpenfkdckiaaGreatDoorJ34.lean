import Derived.Test.YtdohpenfkdckiaaGreatDoorJ32
set_option linter.all false
set_option maxRecDepth 100000
set_option maxHeartbeats 20000000
namespace Go.Proofs.YtdohpenfkdckiaaGreatDoor.Gw
open Go.Proofs.Tryz
open Go.RowKit
structure DOps(I:DInv)(ks:List Int):Prop where
 fmt:∀ (base:Nat) (T:Int) (w:World) (g:I.G),I.ok base T w g→26000≤T→T≤60000→0<base→base≤w.heap.size→w.cell? ⟨0,0,none⟩=some qF5→
  Calls prog 80 #[.pointer (some ⟨I.B g,0,none⟩)] w fun e w'=>e=.returned (.bool true)∧DStep I base (T+2) w w' g
 opn:∀ (base:Nat) (T:Int) (w:World) (g:I.G),I.ok base T w g→26000≤T→T≤60000→0<base→base≤w.heap.size→w.cell? ⟨0,0,none⟩=some qF5→
  Calls prog 81 #[.pointer (some ⟨I.B g,0,none⟩)] w fun e w'=>e=.returned (.bool true)∧DStep I base (T+2) w w' g
 beg:∀ (base:Nat) (T:Int) (w:World) (g:I.G),I.ok base T w g→26000≤T→T≤60000→0<base→base≤w.heap.size→w.cell? ⟨0,0,none⟩=some qF5→(I.kf g).x≠none→∀ wrt:Bool,
  Calls prog 82 #[.pointer (some ⟨I.B g,0,none⟩),.bool wrt] w fun e w'=>e=.returned (.bool true)∧DStep I base (T+2) w w' g
 txn:∀ (base:Nat) (T:Int) (w:World) (g:I.G),I.ok base T w g→26000≤T→T≤60000→0<base→base≤w.heap.size→w.cell? ⟨0,0,none⟩=some qF5→(I.kf g).x≠none→∀ (j:Nat) (hj:j<(I.tbs g).length) (o:SOp),13≤o.k→o.k∈ks→SFits o→
  Calls prog 83 #[.pointer (some ⟨I.B g,0,none⟩),.pointer (some ⟨(I.tbs g)[j],0,none⟩),.agg #[.int .i64 o.k,.int .i64 o.x,.int .i64 o.y,.int .i64 o.a,.int .i64 o.b,.string o.s,.string o.t]] w fun e w'=>e=.returned (.bool true)∧DStep I base (T+2) w w' g
 looks:∀ (base:Nat) (T:Int) (w:World) (g:I.G),I.ok base T w g→26000≤T→T≤70000→
  Calls prog 84 #[.pointer (some ⟨I.B g,0,none⟩)] w fun e w'=>e=.returned (.bool true)∧Kp [] w w'
def zL0(I:DInv)(base Wb:Nat)(T:Int)(w w':World):Prop:=(∃ ds',WOk I base (T+2) w' Wb ds')∧Below base w w'
theorem WOk.done{I:DInv}{base c:Nat}{T:Int}{w w1 w2}{a:List I.G}(h:WOk I base T w c a)(hK:Kp [] w w1)(j:Nat)(d:j<a.length)(e:DStep I base (T+2) w1 w2 a[j]):zL0 I base c T w w2:=by
 have b:=h.same hK (iR _);exact⟨b.one j d e oM,(hK.below h.hbs sM).trans (e.below (b.all _ (gM d)) b.hbs)⟩
theorem WOk.idle{I:DInv}{base a:Nat}{T:Int}{w w1}{b:List I.G}(h:WOk I base T w a b)(hK:Kp [] w w1):zL0 I base a T w w1:=
 ⟨⟨b,h.same hK oM⟩,hK.below h.hbs sM⟩
theorem kL1(I:DInv)(ks:List Int)(O:DOps I ks)(base l:Nat)(T:Int)(f:List I.G)(k x y a b:Int)(s t)(w)(h:WOk I base T w l f)(Y:26000<=T)(X:T<=60000)(F:SFits ⟨k,x,y,a,b,s,t⟩)(ap:k∈ks)(bl:10<=k)(bm:k<=20)(hd:f.length≠0):
  Calls prog 40 #[.pointer (some ⟨l,0,none⟩),.agg #[.int .i64 k,.int .i64 x,.int .i64 y,.int .i64 a,.int .i64 b,.string s,.string t]] w λe w'=>e=.returned (.bool true)/\zL0 I base l T w w':=by
 have bj:=h.hbs;have ak:Kp [] w (w.alloc (.cells #[ϊ k,ϊ x,ϊ y,ϊ a,ϊ b,.string s,.string t] 66)):=kF.alloc _;have a2:=zh ak;have n:=zh h;have HF:=zh (n2 F ap);have ar:=F.x.1;have au:=F.x.2;have av:=F.y.1;have aw:=F.y.2;simp only at ar au av aw;clear h ak F ap;have bi:¬20<k:=oM
 have bh:¬k<10:=oM
 go_enter func40,ntmps40;go_wp2_with fail;refine (xN1 l k x y a b s t _ oM).mono ?_;rintro e q ⟨rfl,ab⟩;have ag:=zh (a2.tr ab);have L:=zh (n.same ag (iR _));have o:=ab.heap (υ w (.cells #[ϊ k,ϊ x,ϊ y,ϊ a,ϊ b,.string s,.string t] 66)) sM;obtain⟨pk,nk,ck,xs,pd,Q,Z,h2,h3,h4⟩:=L.out.hW;obtain⟨z,cur,rfl,bk,ac,ao⟩:=zI2 h4 oM;have ba:=ζ Z;have U:=ζ o;have bb:=ζ ac;have hl:=L.out.len;have bn:¬((f.length:Int)=0):=oM
 have k1:=ξ Z 1;simp only[qD6,zG,zH,zI] at k1;have o0:=ϻ o 0;clear h2 h3 h4 ab;go_wp2_with fail
 .rename_i E;exfalso;simp at E;rcases E with (E|E)|E
  .exact hd (by simp[E])
  .omega
  .omega
 have d:Ϙ q.drew l (qD6 pk nk ck (some ⟨z,0,none⟩) f.length Q)/\Ϙ q.drew w.heap.size (.cells #[ϊ k,ϊ x,ϊ y,ϊ a,ϊ b,.string s,.string t] 66)/\Ϙ q.drew z (.cells cur 119):=⟨Z,o,ac⟩;refine wp_region_held_drew (S:=λW=>Ϙ W l (qD6 pk nk ck (some ⟨z,0,none⟩) f.length Q)/\Ϙ W w.heap.size (.cells #[ϊ k,ϊ x,ϊ y,ϊ a,ϊ b,.string s,.string t] 66)/\Ϙ W z (.cells cur 119)) kR d (λ_=>?_);refine zP 0 l 0 d ?_;refine zP 1 l 0 d ?_;refine zP 2 l 1 d ?_;refine zV 3 (.slice (some ⟨z,0,none⟩) f.length Q) rfl (λW g=>by have c:=ξ g.1 1;simp[qD6] at c;clear g;go_simp) d ?_;refine zP 4 w.heap.size 1 d ?_;refine zV 5 (ϊ x) rfl (λW g=>by have c:=ξ g.2.1 1;simp at c;clear g;go_simp) d ?_;refine zP 6 l 0 d ?_;refine zP 7 l 0 d ?_;refine zP 8 l 1 d ?_;refine zV 9 (.slice (some ⟨z,0,none⟩) f.length Q) rfl (λW g=>by have c:=ξ g.1 1;simp[qD6] at c;clear g;go_simp) d ?_;refine zU 10 (ϊ f.length) d ?_;refine zq 11 λK hK=>?_;go_simp;refine (zB1 x f.length _ ar au oM oM).mono ?_;rintro e J ⟨j,rfl,G,rfl⟩;refine zk hK d ?_
 refine zU 12 (.pointer (some ⟨z,j,none⟩)) d ?_;refine zV 13 (ϖ (I.B f[j])) rfl (λW g=>by have c:=ξ g.2.2 j;rw[zI5 ao j G] at c;clear g;go_simp) d ?_;refine zU 14 (ϖ (I.B f[j])) d ?_;refine zd ?_;have C:=zh o;have B:=zh ag.drew;have u:=zh ((L.same (Kp.refl [] _).drew (iR _)).all _ (gM G));have N:=zh ((L.same (Kp.refl [] _).drew (iR _)).g0);have M:=zh L.hbs;clear d ao ac Z o k1 bb ba o0 U;have U:=ζ C.out;have o:=C.out;have o0:=ϻ o 0;clear o;by_cases a6:k=10
 .subst a6;go_wp2_with fail;refine (O.fmt base T q.drew _ u Y X n.hb M N).mono ?_;rintro e J ⟨rfl,p⟩;have v:=zh (n.done B j G p);clear p;go_wp2;go_ret;exact⟨rfl,v⟩
 by_cases a7:k=11
 .subst a7;go_wp2_with fail;refine (O.opn base T q.drew _ u Y X n.hb M N).mono ?_;rintro e J ⟨rfl,p⟩;have v:=zh (n.done B j G p);clear p;go_wp2;go_ret;exact⟨rfl,v⟩
 have r:=I.kob_ u.out;have a9:=ζ r;have P:=ξ r 7;have D:=ξ r 11;simp only[kob,zG,zH,zI] at P D
 cases hxx:(I.kf f[j]).x with
 | none=>
  rw[hxx] at P;clear hxx r D;go_wp2;go_ret;exact⟨rfl,n.idle B⟩
 | some xa=>
  rw[hxx] at P;have aj:Hid ((I.kf f[j]).x≠none):=by intro h;rw[h] at hxx;cases hxx
  by_cases a8:k=12
  .subst a8;have o:=C.out;have o3:=ϻ o 3;clear o hxx r;go_wp2_with fail;refine (O.beg base T q.drew _ u Y X n.hb M N aj _).mono ?_;rintro e J ⟨rfl,p⟩;have v:=zh (n.done B j G p);clear p;go_wp2;go_ret;exact⟨rfl,v⟩
  obtain⟨pt,R,af,aq⟩:=I.row u.out;have be:=I.tlen u.out;rw[af] at D;by_cases hz:(I.tbs f[j]).length=0
  .rw[hz] at D;clear hxx r aq;go_wp2;go_ret;exact⟨rfl,n.idle B⟩
  obtain⟨A,aa,rfl,ad,an⟩:=aq oM;have bf:¬(((I.tbs f[j]).length:Int)=0):=oM
  obtain⟨m,hm⟩:=eY ((I.tbs f[j]).length);rw[hm] at D bf be hz;have bc:=ζ ad;have ax:=zh r;have a5:Hid ((I.kf f[j]).ts=.slice (some ⟨A,0,none⟩) m R):=by rw[<-hm];exact af
  have a4:=zh ad;have az:Hid (∀ i (h:i<m),aa[i]?=some (ϖ ((I.tbs f[j])[i]'oM))):=λi h=>an i oM;have bg:=C;clear hxx r ad an af;go_wp2_with fail;have ae:∀ V:World,V.heap[I.B f[j]]?=some (kob (I.kf f[j]))->V.cell? ⟨I.B f[j],11,none⟩=some (.slice (some ⟨A,0,none⟩) m R):=λV hV=>by
   have c:=ξ hV 11;simp only[kob,zG,zH,zI] at c;rw[c,a5.out]
  have d:q.drew.drew.heap[I.B f[j]]?=some (kob (I.kf f[j]))/\Ϙ q.drew.drew w.heap.size (.cells #[ϊ k,ϊ x,ϊ y,ϊ a,ϊ b,.string s,.string t] 66)/\Ϙ q.drew.drew A (.cells aa 132):=⟨ax,C,a4⟩;refine wp_region_held_drew (S:=λW=>W.heap[I.B f[j]]?=some (kob (I.kf f[j]))/\Ϙ W w.heap.size (.cells #[ϊ k,ϊ x,ϊ y,ϊ a,ϊ b,.string s,.string t] 66)/\Ϙ W A (.cells aa 132)) kR d (λ_=>?_);refine zU 0 (ϖ (I.B f[j])) d ?_;refine zU 1 (ϖ (I.B f[j])) d ?_;refine zU 2 (.pointer (some ⟨I.B f[j],11,none⟩)) d ?_;refine zV 3 (.slice (some ⟨A,0,none⟩) m R) rfl (λW g=>by have c:=ae _ g.1;clear g;go_simp) d ?_;refine zP 4 w.heap.size 2 d ?_;refine zV 5 (ϊ y) rfl (λW g=>by have c:=ξ g.2.1 2;simp at c;clear g;go_simp) d ?_;refine zU 6 (ϖ (I.B f[j])) d ?_;refine zU 7 (ϖ (I.B f[j])) d ?_;refine zU 8 (.pointer (some ⟨I.B f[j],11,none⟩)) d ?_;refine zV 9 (.slice (some ⟨A,0,none⟩) m R) rfl (λW g=>by have c:=ae _ g.1;clear g;go_simp) d ?_;refine zU 10 (ϊ m) d ?_;refine zq 11 λK hK=>?_;go_simp;refine (zB1 y m _ av aw oM oM).mono ?_;rintro e J ⟨H,rfl,bd,rfl⟩;refine zk hK d ?_
  refine zU 12 (.pointer (some ⟨A,H,none⟩)) d ?_;refine zV 13 (ϖ ((I.tbs f[j])[H]'oM)) rfl (λW g=>by have c:=ξ g.2.2 H;rw[az.out H bd] at c;clear g;go_simp) d ?_;refine zU 14 (ϖ ((I.tbs f[j])[H]'oM)) d ?_;refine zd ?_;have a3:=zh B.drew;have a1:=zh (I.keep u (Kp.refl [] _).drew (Muts.nil _ _ _) sM (iR _));have a0:=zh N.out;have ai:=zh C.out;have ay:=zh M.out;clear d o0 P D ae bc a9 U;have U:=ζ ai.out;have am:=ai.out;have o0:=ξ am;clear am;go_wp2_with fail;refine (O.txn base T q.drew.drew _ a1 Y X n.hb ay a0 aj H oM ⟨k,x,y,a,b,s,t⟩ (by show 13<=k;omega) HF.2 HF.1).mono ?_;rintro e J ⟨rfl,p⟩;have HS:=zh p;obtain⟨g',L',q1,q2,_⟩:=p;have ah:=O.looks base (T+2) J g' q1 oM oM;rw[q2] at ah;clear q1 q2;go_wp2_with fail;refine ah.mono ?_;rintro e w3 ⟨rfl,al⟩;have v:=zh (n.done a3 j G (HS.after al));clear al;go_wp2;go_ret;exact⟨rfl,v⟩
end Go.Proofs.YtdohpenfkdckiaaGreatDoor.Gw
