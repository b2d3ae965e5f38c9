import Derived.Test.YtdohpenfkdckiaaGreatDoorJ11
import Derived.Test.YtdohpenfkdckiaaGreatDoorJ13
import Derived.Test.YtdohpenfkdckiaaGreatDoorJ14
import Derived.LaidSub
import Derived.HandedShaped
import Derived.Lib.LaidTab
set_option linter.all false
set_option maxRecDepth 100000
set_option maxHeartbeats 0
namespace Go.Proofs.YtdohpenfkdckiaaGreatDoor
open Go.Proofs.Tryz Go.RowKit
namespace Gf
open Gw (TK Books CI CD Muts MutC DInv CO DStep)
open Go.ChangeMaps
def Eh(com:Int):List YG→List (Int×Nat)
 | []=>[]
 | y::ys=>if y.f.dn=false∧y.f.com<com then(y.t.h.b,(y.ps.length+1) / 2)::Eh com ys else Eh com ys
def Qb(b:Int):∀a:List YG,((qM2 Prod.snd (Eh b a):Nat):Int)<=Bm b (Bt a)
 | []=>iR _
 | y::a=>by
  have c:=Qb b a;simp[Bt,List.map_cons,Bm]at c |-;rw[Eh];split
  .rw[Au];simp only;omega
  .omega
def KT{d:Int}{y:YG}(a:y.f.dn=false)(b:y.f.com<d):∀{c:List YG},y∈c->(y.t.h.b,(y.ps.length+1) / 2)∈Eh d c
 | z::c,h=>by
  rw[Eh];rcases List.mem_cons.1 h with rfl|h
  .rw[if_pos ⟨a,b⟩];exact List.mem_cons_self
  .split
   .exact mM _ (KT a b h)
   .exact KT a b h
section
variable {base i:Nat} {T:Int} {w w' w1:Ϣ} {q q':SG} {y:YG} {g:TG} {r:Root}
def At.reader(h:At base T w g q r i y)(n:q.s.po=false){m:Int}(l:Maps.has q.D (χ m)=true):∃j,∃b:j<g.ys.length,g.ys[j].t.over=false/\g.ys[j].t.wrt=false/\g.ys[j].t.nr=m:=by
 let⟨j,k,a,c,d,f⟩:=((h.S.sh n).2.2.keys m).1 l;have b:j<g.ys.length:=by have:=Gw.Mi a;simpa using this
 have e:k=kOf g.ys[j]:=by simp[b]at a;exact a.symm
 subst e;exact⟨j,b,c,d,f⟩
def At.qX9(h:At base T w g q r i y)(b:q.s.po=false){D}(z:∀k,Maps.has D k=true->Maps.has q.D k=true/\∀zd,D.atKey k zd=q.D.atKey k zd):IM g.n D g.l ((q.s.rb,(r.cont.length+1) / 2)::Eh g.k.com g.ys):=λm hh r0 g1 g2 g3 g4 g5=>by
 have c:=h.sh b;let⟨v,x⟩:=z _ g1;obtain⟨j,e,d,o,rfl⟩:=h.reader b v;have n:=h.S.ys _ (gM e);have f:=n.live b d;let⟨p,s,t,a⟩:=f.red o;have A:=Le ((g2 (.lit (.int .i64 0))).symm.trans ((x _).trans (t _))) g3 p;subst A;have l:=Fm g5;rcases a with a|⟨a,u⟩
 .rw[(Lie.one c.N1 g4 s).1,f.cont]at l;exact⟨_,mM _ (KT (by rw[n.dn];exact d) a (gM e)),rfl,by simp only;omega⟩
 .rw[a,u]at g4;rw[(Lie.one c.N1 g4 c.lie).1]at l;exact⟨_,List.mem_cons_self,a.symm,by simp only;omega⟩
def At.qY2(h:At base T w g q r i y)(f:RGood r)(a:RGood y.r)(e:y.r.cont=y.ps)(b:g.n<2+y.r.news+AE y.r+AE r+qM2 Prod.snd ((q.s.rb,(r.cont.length+1) / 2)::Eh g.k.com g.ys)):Ee g.k r.cont.length y.f.qN8 0 (Bm g.k.com (Bt g.ys))=false:=by
 have c:=Fm a;have j:=Fm f;have d:=Fo a;have k:=Qb g.k.com g.ys;have l:=h.yy.m0;rw[e]at c d;rw[Au]at b;simp only at b;rw[Ee];have:¬(3*(max (max y.f.qN8 0) ((r.cont.length:Nat):Int))+12+Bm g.k.com (Bt g.ys)<=(g.k.n:Int)):=by
  show¬(_<=(g.n:Int));omega
 rw[decide_eq_false this];rfl
def YOk.then{n:Nat}{b a:Int}{E E'}{l l'}(h:YOk base T w n b E l q y)(c:q'.St=q.St)(d:b<=a)(e:y.t.over=false->Lv w n a E' l' q' y):YOk base T w n a E' l' q' y:=
 { h with st:=by rw[c];exact h.st,cm:=Int.le_trans h.cm d,live:=λ_=>e }
def CmR(g:TG)(q:SG)(y:YG)(r:Root)(w:Ϣ)(ko:ϩ)(w1:Ϣ):Prop:=w1.heap[y.f.x]?=some (Ac y.t.ended)/\
 ((ko=none/\∃a l' b d,Sh g.κ w1 q.Db q.St g.A g.C g.n q.nM a (q.D.del (χ y.t.nr)) l' b d/\d.cont=y.r.cont/\a.N<=q.s.N+2/\a.bg=q.s.bg/\a.wr=(q.s.left y.t.nr).wr/\a.V=q.s.V/\a.M=q.s.M/\IQ g.n (q.D.del (χ y.t.nr)) g.l l'/\g.wr<=b/\b<=g.wr+30003)\/
  (ko=some 3/\Sh g.κ w1 q.Db q.St g.A g.C g.n q.nM (q.s.left y.t.nr) (q.D.del (χ y.t.nr)) g.l g.wr r)\/
  (ioK ko=true/\∃(a:Sto)(l1:ϣ)(ws1:ϥ)(b:Int)(ca:Ϥ)(nm:Int),w1.heap[q.St]?=some (η 0 { a with po:=true })/\a.M=q.s.M/\a.bg=q.s.bg/\(∃es c,w1.heap[q.s.M]?=some (.map es c))/\Dn g.κ.up g.A g.n g.C l1 ws1 b ca w1/\(∀k∈ca,w.heap.size<=k)/\nm<=q.s.N+2/\Pend g.n l1 ws1 (λc=>c=r.cont\/c=y.r.cont) False nm/\ws1.length<=1000/\g.wr<=b/\b<=g.wr+30003))
def Books.as{s s'}{D}{ks:List TK}(h:Books s D ks)(a:s'.wr=s.wr)(b:s'.bg=s.bg):Books s' D ks:=
 { h with wrs:=by rw[a];exact h.wrs,wr1:=by rw[a];exact h.wr1,nrs:=by rw[b];exact h.nrs }
abbrev cmL(g:TG)(q:SG)(y:YG):List Nat:=[q.St,y.f.x,q.s.M,g.A,g.C,y.tb]
def At.qV6(h:At base T w g q r i y):Muts base [130,114,115,169,99,197] w (g.B::cmL g q y):=λk f=>by
 let⟨_,_,_,j⟩:=h.ok.d.dev.at;let⟨m,n,l⟩:=h.S.hM;have b:=h.ok.d;have d:=h.yy;simp[mC,lN,or_false]at f;rcases f with rfl|rfl|rfl|rfl|rfl|rfl|rfl
 .exact⟨b.bB,_,b.hB,λc t a e=>by cases e;decide⟩
 .exact⟨h.S.bSt,_,h.S.hSt,λc t a e=>by cases e;decide⟩
 .exact⟨d.bX,_,d.hx,λc t a e=>by cases e;decide⟩
 .exact⟨h.S.bM,_,l,λc t a e=>by cases e⟩
 .exact⟨b.bA,_,j,λc t a e=>by cases e;decide⟩
 .exact⟨b.bC,_,b.dev.hC,λc t a e=>by cases e;decide⟩
 .exact⟨d.bT,_,d.hT,λc t a e=>by cases e;decide⟩
def At.qW6(h:At base T w g q r i y):∀k∈cmL g q y,k∈[g.A,g.C,q.St,q.s.M]\/k∈AO y:=λk hk=>by
 simp[mC,lN,or_false]at hk;rcases hk with e|e|e|e|e|e
 .exact .inl (by simp[e])
 .exact .inr (Bl.2 (.inr (.inl e)))
 .exact .inl (by simp[e])
 .exact .inl (by simp[e])
 .exact .inl (by simp[e])
 .exact .inr (Bl.2 (.inl e))
def QF{p:Prop}(_h:p:=by
 have hKK:Kp (g.B::cmL g q y) w w':=(hK1.mono (λk hk _=>by simp at hk |-;rcases hk with h | h | h | h | h<;>simp[h])).trans hK2 (λk hk _=>by simp at hk |-;rcases hk with h | h<;>simp[h]);have hin:∀k∈g.B::cmL g q y,k∈[g.B,g.A,g.C,q.St,q.s.M]\/k∈AO y:=λk hk=>by
  rcases List.mem_cons.1 hk with e|hk
  .exact .inl (by simp[e])
  .exact (h.qW6 k hk).imp_left λh=>mM _ h
 exact Tz.out):p:=_h
def At.qU6(h:At base T w g q r i y)(hp:q.s.po=false)(B:y.t.over=false)(W:y.t.wrt=true)(hR:CmR g q y r w none w1)(hK1:Kp [q.St,y.f.x,q.s.M,g.A,g.C] w w1)(hK2:Kp [y.tb,g.B] w1 w')(O:w'.heap[y.tb]?=some (tob { y.f with dn:=true })){I:Ϩ}{v x u:Nat}(hf:Both (SPR w) I g.qM8)
  (N:w'.heap[g.B]?=some (kob { g.k with may:=.slice (some (ϰ v 0)) 1 1,emp:=false,qN4:=.slice (some (ϰ x 0)) (g.qM8.length+1) u,c:=y.f.v,com:=g.k.com+1 })) (S:w'.ownsRow w1.heap.size 126 1 (.slice (some (ϰ v 0)) 1 1) 1 [y.f.v]) (X:RowM w' w1.heap.size (.slice (some (ϰ x 0)) (g.qM8.length+1) u) (g.qM8.length+1) (I++[y.f.v])):DStep AK base (T+2) w w' g:=by
 obtain⟨Z,⟨_,s',l',wr',nt,hsh,a1,a3,a4,a5,a6,a7,a9,a10,a11⟩|⟨h3,_⟩|⟨h3,_⟩⟩:=hR
 rotate_left
 .cases h3
 .cases h3
 have f:=h.yy;have hd:=h.ok.d;have l:=(h.S.sh hp).2.2;let⟨n1,n2,n3,n4,n5,n6,n7⟩:=h.ne;have A:=h.qV6;have hT1:=hK1.heap f.hT (by simp[n1,n2,n3,n6];exact υ f.hT hd.dev.hC dC);have V:=h.nB h.qW6;have hB1:=hK1.heap hd.hB (λhm=>V (by simp[mC,lN,or_false]at hm |-;rcases hm with e | e | e | e | e<;>simp[e]));have Tz:Hid (∀{p:Prop},(_h:p:=by
  have d:Sh g.κ w' q.Db q.St g.A g.C g.n q.nM s' (q.D.del (χ y.t.nr)) l' wr' nt:=by
   let⟨c0,c1,G⟩:=hsh.hA;refine Sh.kp hsh hK2 (λj a hm=>?_) (λk hk c t fr e=>?_)
   .simp[mC,lN,or_false]at a hm;rcases hm with rfl|rfl
    .rcases a with e|e|e|e|e|e
     .exact υ hT1 hsh.hDb dC e
     .exact υ hT1 hsh.hSt dC e
     .exact AH hT1 hsh.hM e
     .exact υ hT1 hsh.dev.hV dC e
     .exact υ hT1 G dC e
     .exact υ hT1 hsh.dev.hC dC e
    .rcases a with e|e|e|e|e|e
     .exact υ hB1 hsh.hDb dC e
     .exact υ hB1 hsh.hSt dC e
     .exact AH hB1 hsh.hM e
     .exact υ hB1 hsh.dev.hV dC e
     .exact υ hB1 G dC e
     .exact υ hB1 hsh.dev.hC dC e
   .simp[mC,lN,or_false]at hk;rcases hk with rfl|rfl
    .rw[hT1]at e;cases e;decide
    .rw[hB1]at e;cases e;decide
  have hsz:=f.sz;have hs1:=hK1.size;have a2:=h.hbs;have P:=A.apt (Us:=[126,284]) dC;have E:=f.sp.qM3 hKK (A.apt dC);have o:=a1.trans (f.live hp B).cont;have ba:=(h.em hp).2;have bb:=hd.nm1;have bl:=hd.nm2;have b5:=hd.wr0;have b6:=hd.wr1;have a8:=hd.qQ9;have hc1:=hd.qR4;have bs:=hd.td1;have b0:=hd.qR2;have a0:=h.T0;have hT1':=h.T1;refine h.ok.txn (g':=⟨g.B,g.C,{ g.k with may:=ϑ v 0 1 1,emp:=false,qN4:=ϑ x 0 (g.qM8.length+1) u,c:=y.f.v,com:=g.k.com+1 },g.κ,l',[],wr',[],s'.N,[y.ps],g.qM8++[y.ps],some { q with s:=s',D:=q.D.del (χ y.t.nr) },g.ys.set i ⟨y.tb,{ y.f with dn:=true },y.t.ended,y.r,y.ps,y.cs⟩,g.hs⟩) h.e1 h.S h.hi hKK (by rw[h.hy];exact hin) oM ⟨rfl,rfl,rfl,rfl,rfl,rfl⟩ ⟨rfl,rfl,rfl⟩ (by rw[h.hy]) (λk hk=>by rw[h.hy];exact .inl hk) ⟨rfl,a7⟩ (λk hk=>by cases hk) ?_ ⟨nt,h.ex,?_,λ_=>⟨by rw[o];exact List.mem_singleton.2 rfl,iR _⟩,by rw[o];omega,by rw[o];exact E,h.S.bSt,by show base<=s'.M;rw[a7];exact h.S.bM,d.hDb,d.hSt,?_,λ_=>⟨rfl,d,by rw[List.map_set];exact Books.as (l.left (World.ownsMap.tidy (h.sh hp).hM CH) (h.num hp).1 B) a5 a4⟩,by show s'.bg<=T+2;rw[a4];have:=h.S.bg1;omega,by have:=h.S.nM;show((q.nM:Nat):Int)<=T+2;omega,λz hz=>?_⟩
  .have Q:=(show Dw _ _ _ _ _ _ _ _ _ w' from d.dev).n;exact⟨hd.bB,hd.bA,hd.bC,λk hk=>(by cases hk),N,hd.n1,hd.wl,Q,λ_=>d.qR7.mono (λc e=>by rw[e,o];exact List.mem_singleton.2 rfl) False.elim,by show s'.N<=T+2;omega,by show s'.N<=100000;omega,hd.td0,by show g.κ.told<=T+2;omega,by show((0:Nat):Int)<=T+2-20000;omega,by show 0<=wr';omega,by show wr'<=15002*(T+2-26000);omega,Gr S oM E,EJ X oM hf hKK (λi c t fr e hi=>by have:=P i hi c t fr e;simpa using this) E,by show((1:Nat):Int)<=T+2;omega,by show(((g.qM8++[y.ps]).length:Nat):Int)<=T+2;rw[lA];simp[lC,List.length_nil];omega,λm hm=>by rw[mS hm];omega,by show 0<=g.k.com+1;omega,by show g.k.com+1<=T+2;omega⟩
  .show g.k.po=s'.po;rw[h.ep,hp,d.po]
  .let⟨M,c,e,_⟩:=d.hM;exact⟨M,c,e⟩
  .obtain⟨j,a,rfl⟩:=gO hz;simp[List.length_set]at a;rw[List.getElem_set];split
   .exact h.qU1 hKK (A.apt dC) (by show g.k.com<=g.k.com+1;omega) O (hK2.heap Z (by simp[n2.symm];exact υ f.hx hd.hB dC)) rfl
   .rename_i hne;have H:=h.S.ys _ (gM a);have ad:=h.S.others hd.dev hd.hB h.hi h.ok.sep hKK (by rw[h.hy];exact hin) (show T<=T+2 by omega) j a (λe=>hne e.symm);refine ad.then (q:=q) rfl (by show g.k.com<=g.k.com+1;omega) λC=>?_;have b:=H.live hp C;have ce:(g.ys.map kOf)[j]?=some (kOf g.ys[j]):=by simp[a]
    have F:g.ys[j].t.wrt=false:=by
     cases hb:g.ys[j].t.wrt with
     | false=>rfl
     | true=>
      exact absurd (l.qR0 j i _ _ ce (h.num hp).1 ((l.wrs j _ ce C hb).trans (l.wrs i _ (h.num hp).1 B W).symm)) (λe=>hne e.symm)
    let⟨n,K,L,b4⟩:=b.red F;have aw:=h.others hp j a (λe=>hne e.symm);have R:Maps.has (q.D.del (χ y.t.nr)) (χ g.ys[j].t.nr)=true:=by
     rw[Maps.has_del_other aw];exact(l.keys _).2 ⟨j,_,ce,C,F,rfl⟩
    have hh:g.ys[j].t.h=⟨⟨#[]⟩,g.ys[j].t.h.b,g.ys[j].t.h.s,none⟩:=by
     have hk:=PH b.rr b.qM7;cases hx:g.ys[j].t.h;rw[hx]at hk n;simp only at hk n;rw[hk,n]
    have hat:=λzd=>(Maps.atKey_del_other aw zd).trans (L zd);have hlie:=a9 _ _ _ _ R (by rw[<-hh];exact hat) K;exact { on:=by show g.ys[j].t.on=some (ϰ s'.V 0);rw[a6];exact b.on,rr:=by rw[hh];exact hlie.rr b.qM7 w',qM7:=b.qM7,cont:=b.cont,wrt:=λe=>(by rw[F]at e;cases e),red:=λ_=>⟨n,hlie,hat,.inl (by have:=H.cm;show _<g.k.com+1;omega)⟩ })->p):=λh=>h;exact QF
def At.qY0(h:At base T w g q r i y)(hp:q.s.po=false)(K:y.t.over=false){ko:ϩ}(d:ioK ko=true)(hR:CmR g q y r w ko w1)(hK1:Kp [q.St,y.f.x,q.s.M,g.A,g.C] w w1)(hK2:Kp [y.tb,g.B] w1 w')(E:w'.heap[y.tb]?=some (tob { y.f with dn:=true })){x v:Ϩ}{l f n j:Nat}(he:Both (SPR w) x g.qN7)(hf:Both (SPR w) v g.qM8)
  (B:w'.heap[g.B]?=some (kob { g.k with may:=.slice (some (ϰ l 0)) (g.qN7.length+1) f,qN4:=.slice (some (ϰ n 0)) (g.qM8.length+1) j,po:=true })) (I:RowM w' w1.heap.size (.slice (some (ϰ l 0)) (g.qN7.length+1) f) (g.qN7.length+1) (x++[y.f.v])) (M:RowM w' w1.heap.size (.slice (some (ϰ n 0)) (g.qM8.length+1) j) (g.qM8.length+1) (v++[y.f.v])):DStep AK base (T+2) w w' g:=by
 obtain⟨N,⟨h3,_⟩|⟨h3,_⟩|⟨_,s',l1,ws1,wr',ca,nm,a1,a2,a3,a4,a5,a6,a7,a8,a9,a10,a11⟩⟩:=hR
 .rw[h3]at d;cases d
 .rw[h3]at d;cases d
 have b:=h.yy;have hlv:=b.live hp K;have hd:=h.ok.d;have a:=h.qV6;let⟨O,n2,n3,n4,n5,n6,n7⟩:=h.ne;have Tz:Hid (∀{p:Prop},(_h:p:=by
  have hsz:=b.sz;have hs1:=hK1.size;have G:=h.hbs;have W:=U hd.hB;have X:=U b.hT;have F:=a.apt (Us:=[126,284]) dC;have o:∀i c t fr,Ϙ w i (ϲ c t fr)->i∈g.B::cmL g q y->t≠126/\t≠284:=λi c t fr e hi=>by have:=F i hi c t fr e;simpa using this
  have u:=b.sp.qM3 hKK (a.apt dC);let⟨hem,R⟩:=h.em hp;have S:=hd.nm1;have V:=hd.nm2;have ba:=hd.wr0;have bb:=hd.wr1;have hc1:=hd.qR4;have L:=hd.td0;have Z:=hd.td1;have a0:=hd.qR2;have Q:=hd.qR6;have P:=h.T0;have hT1':=h.T1;have ad:=Lj L oM;have C:=(υ b.hT hd.dev.hC dC).symm;let⟨A,z,D⟩:=a4;have hne:=hd.ne;have H:=Dn.move a5 hK2 (by simpa using⟨n3.symm,hne.1⟩) (by simpa using⟨C,hne.2⟩) (λk hk=>by have:=a6 k hk;simp;omega) (hd.dev.gl.qM3 hKK (a.apt dC));refine h.ok.txn (g':=⟨g.B,g.C,{ g.k with may:=ϑ l 0 (g.qN7.length+1) f,qN4:=ϑ n 0 (g.qM8.length+1) j,po:=true },g.κ.up,l1,ws1,wr',ca,nm,g.qN7++[y.ps],g.qM8++[y.ps],some { q with s:={ s' with po:=true } },g.ys.set i ⟨y.tb,{ y.f with dn:=true },y.t.ended,y.r,y.ps,y.cs⟩,g.hs⟩) h.e1 h.S h.hi hKK (by rw[h.hy];exact hin) oM ⟨rfl,rfl,rfl,rfl,rfl,rfl⟩ ⟨rfl,rfl,rfl⟩ (by rw[h.hy]) (λk hk=>by rw[h.hy];exact .inl hk) ⟨rfl,a2⟩ (λk hk=>.inr (a6 k hk)) ?_ ⟨r,h.ex,rfl,λh=>(by cases h),oW h.el,h.ec.qM3 hKK (a.apt dC),h.S.qS6 hd.dev hd.hB h.hi h.ok.sep hKK (by rw[h.hy];exact hin) oM (hKK.heap h.S.hDb (a.not h.S.hDb dC)) (hK2.heap a1 (by simp[O.symm];exact(υ hd.hB h.S.hSt dC).symm)) ⟨A,z,?_⟩ rfl ⟨rfl,a2⟩ (by show s'.bg<=T+2;rw[a3];have:=h.S.bg1;omega) (by have:=h.S.nM;show((q.nM:Nat):Int)<=T+2;omega) (h.qU1 hKK (a.apt dC) (iR _) E (hK2.heap N (by simp[n2.symm];exact υ b.hx hd.hB dC)) rfl)⟩
  .exact⟨hd.bB,hd.bA,hd.bC,λk hk=>lT G (a6 k hk),B,hd.n1,hd.wl,H,λ_=>a8.mono (λc e=>e.elim (λe=>by rw[e];exact List.mem_append_left _ hem) λe=>by rw[e,hlv.cont];exact List.mem_append_right _ (List.mem_singleton.2 rfl)) False.elim,dO,dO,dO,dO,dO,dO,dO,EJ I oM he hKK o u,EJ M oM hf hKK o u,by show(((g.qN7++[y.ps]).length:Nat):Int)<=T+2;rw[lA];simp[lC,List.length_nil];omega,by show(((g.qM8++[y.ps]).length:Nat):Int)<=T+2;rw[lA];simp[lC,List.length_nil];omega,λm hm=>(by
    rcases mA (show m∈g.qN7++[y.ps] from hm) with hm|hm
    .have:=hd.mms m hm;omega
    .rw[mS hm];omega),hd.qQ9,dO⟩
  .rw[show(({ s' with po:=true }:Sto)).M=q.s.M from a2];apply hK2.heap D;simp[mC,lN,or_false,not_or];exact⟨n6.symm,λe=>h.nB h.qW6 (by simp[e])⟩)->p):=λh=>h;exact QF
def Tt(h:At base T w g q r i y)(c:q.s.po=false)(l:y.t.over=false)(u:y.t.wrt=true):CSt base T w g 135 #[ϖ g.B,ϖ y.tb,ϐ true]:=by
 have f:=h.yy;have m:=f.live c l;have b:=h.ok.d;have o:=h.sh c;let⟨m1,m2,m3⟩:=h.num c;have:=h.T1;have:=o.N4;have:=h.el;have:=(h.em c).2;have:=b.nm1;have A:=b.wr0;have:=b.wr1;have:=b.td1;have:=b.qR6;have:=b.qR2;have af:g.k.po=false:=by rw[h.ep];exact c
 let⟨N,O,ac⟩:=h.ec.form;let⟨xk,B,G⟩:=b.qN4;let⟨pw,Q,F⟩:=B.form;rw[F]at B;let⟨xm,C,S⟩:=b.may;let⟨pm,P,H⟩:=C.form;rw[H]at C;have:=f.sz;have ae:=Fo m.qM7;rw[m.cont]at ae;have aa:∀k,Maps.has (q.D.del (χ y.t.nr)) k=true->Maps.has q.D k=true/\∀zd,(q.D.del (χ y.t.nr)).atKey k zd=q.D.atKey k zd:=λk a=>by
  by_cases e:k=χ y.t.nr
  .rw[e,Maps.has_del_same]at a;cases a
  .rw[Maps.has_del_other e]at a;exact⟨a,λzd=>Maps.atKey_del_other e zd⟩
 let⟨⟨k0,ab,L⟩,_⟩:=m.wrt u;have:=f.c0;have K:y.r.lev<=5->(y.r.news:Int)<=12*y.f.chg:=λhl=>by
  unfold BW at L;rw[if_neg oM]at L;rw[ab];omega
 refine(Vb g.B y.tb g.κ.told g.wr g.k y.f (Ba g) (Bt g.ys) y.ps [q.St,y.f.x,q.s.M,g.A,g.C] (CmR g q y r w) w h.chg (h.qQ5 sC) b.dev.wrs af (by rw[f.dn,l]) (by rw[f.wr,u]) A oM b.qQ9 (oW b.qR4) h.tfs (by have:=h.ok.qR9;simp[Ba];omega) (λx hx=>by
  obtain⟨z,hz,rfl⟩:=List.mem_map.1 hx;have:=(h.S.ys z hz).sz;simp only;omega) N r.cont.length O ac oM (by show g.n<=100000;omega) base g.qN7.length P g.qM8.length Q pm pw H F C B oM oM ?_).mono ?_
 .apply (o.qW3 (h.live c l) f.st u oM m3 oM).mono;rintro e w1 ⟨v,ko,rfl,hv,n,hK1,⟨rfl,s',l',wr',nt,a0,a1,a3,a4,a5,a6,a7,a8,a9,a10⟩|⟨rfl,a0,a1⟩|⟨hio,s',l1,ws1,kk,ca,nm,b1,b2,b3,b4,b5,b6,b7,b8,b9,b10,b11⟩⟩
  .have d:g.wr<=wr'/\wr'<=g.wr+30003/\wr'-g.wr<=12*y.f.chg+2:=by
    rcases a10 with rfl|⟨rfl,E⟩
    .omega
    .have:=K E;rw[Fj A oM,Hy oM oM _ oM,Fj oM oM];omega
   exact⟨v,none,wr',rfl,hv,⟨n,.inl ⟨rfl,s',l',wr',nt,a0,a1,a3,a4,a5,a6,a7,a9,d.1,d.2.1⟩⟩,hK1,(show Dw _ _ _ _ _ _ _ _ _ w1 from a0.dev).n.wrs,d.1,d.2.2,.inl rfl⟩
  .exact⟨v,some 3,g.wr,rfl,hv,⟨n,.inr (.inl ⟨rfl,a0⟩)⟩,hK1,(show Dw _ _ _ _ _ _ _ _ _ w1 from a0.dev).n.wrs,iR _,oM,.inr (.inl ⟨rfl,h.qY2 o.qM7 m.qM7 m.cont (a1 _ (h.qX9 c aa))⟩)⟩
  .have d:g.wr<=nk g.wr kk/\nk g.wr kk<=g.wr+30003/\nk g.wr kk-g.wr<=12*y.f.chg+2:=by
    rcases b11 with a|⟨a,E⟩
    .rw[Hy A oM _ oM];omega
    .have:=K E;rw[Hy A oM _ oM];omega
   exact⟨v,ko,nk g.wr kk,rfl,hv,⟨n,.inr (.inr ⟨hio,s',l1,ws1,_,ca,nm,b1,b3,b4,b5,b6,b7,b8,b9,b10,d.1,d.2.1⟩)⟩,hK1,b6.wrs,d.1,d.2.2,.inr (.inr ⟨hio,Dn.more b6 b.td0 oM⟩)⟩
 .rintro e w' ⟨rfl,ko,w1,hR,hK1,hT',⟨rfl,hK2⟩|⟨rfl,hK2,gm,gw,cw',hB',hmay,hwere⟩|⟨hio,hK2,gm,cm',gw,cw',hB',hmay,hwere⟩⟩
  .obtain⟨n,⟨h3,_⟩|⟨_,hsh⟩|⟨h3,_⟩⟩:=hR
   .cases h3
   rotate_left
   .cases h3
   refine⟨rfl,?_⟩;let⟨n1,n2,n3,n4,n5,n6,n7⟩:=h.ne;have I:Kp (cmL g q y) w w':=(hK1.mono (λk a _=>by simp at a |-;rcases a with h | h | h | h | h<;>simp[h])).trans hK2 (λk a _=>by simp at a |-;simp[a]);have W:=hK1.heap f.hT (by simp[n1,n2,n3,n6];exact υ f.hT b.dev.hC dC);let⟨e,_,X⟩:=h.S.sh c;have p:=Sh.one hsh hK2 W dC;have Z:g.Dv g.κ w':=by
    show Dn g.κ g.A g.n g.C g.l g.ws g.wr g.ca w';rw[Dn.ca0 b.dev e,e];exact(show Dw _ _ _ _ _ _ _ _ _ w' from p.dev).n
   let⟨R,M,V,_⟩:=p.hM;exact h.step (q':={ q with s:=q.s.left y.t.nr,D:=q.D.del (χ y.t.nr) }) (y':=⟨y.tb,{ y.f with dn:=true },y.t.ended,y.r,y.ps,y.cs⟩) I h.qW6 rfl (λk a=>.inl a) Z p.hSt ⟨R,M,V⟩ (λ_=>⟨p,by rw[List.map_set];exact X.left (World.ownsMap.tidy o.hM CH) m1 l⟩) ⟨rfl,rfl,rfl,rfl,rfl⟩ ⟨rfl,rfl,rfl,rfl,rfl⟩ (λj hj ad _ _ zd=>Maps.atKey_del_other (h.others c j hj ad) zd) (h.qU1 I ((h.qV6.mono (λt ht=>ht) (λk a=>mM _ a)).apt dC) (iR _) hT' (hK2.heap n (sU n2.symm)) rfl)
  .exact⟨rfl,h.qU6 c l u hR hK1 hK2 hT' G hB' hmay hwere⟩
  .exact⟨rfl,h.qY0 c l hio hR hK1 hK2 hT' S G hB' hmay hwere⟩
end
def Hz:(⟨#[]⟩:Ϧ).toList.isEmpty=true:=by
 rw[ByteArray.toList_eq];rfl
def PW{a:Type}(f:CG->a){l:List CG}{i:Nat}(k:i<l.length){c:CG}(h:f c=f l[i]):(l.set i c).map f=l.map f:=by
 rw[List.map_set,h];exact List.ext_getElem sM (λj b d=>by
  rw[List.getElem_set];split
  .rename_i e;subst e;simp
  .rfl)
def Za{o:Option KV}{ps:List KV}(b:∀p∈ps,AD p)(a:∀p,o=some p->p∈ps):o.isSome=!(pkv o).k.toList.isEmpty:=by
 cases o with
 | none=>simp only[pkv,Option.isSome_none,Hz];rfl
 | some p=>simp only[pkv,Option.isSome_some,NQ (b p (a p rfl)).1];rfl
section
variable {base i:Nat} {T:Int} {w w':Ϣ} {q:SG} {y:YG} {g:TG} {r:Root}
def YOk.qT9(h:At base T w g q r i y){L}(hK:Kp L w w')(l:Apt w L ([284,99]++Bi)){v}{cs:List CG}(hT:w'.heap[y.tb]?=some (tob { y.f with cs:=v }))(qP7:w'.ownsRow base 203 1 v (cs.map CG.cb).length (BK (cs.map CG.cb)))(qQ0:(cs.length:Int)<=T+2)(qO7:∀c∈cs,COk base w' { y with f:={ y.f with cs:=v },cs:=cs } c)(cbs:(cs.map CG.cb).Nodup)(Cbs:(cs.map CG.Cb).Nodup):YOk base (T+2) w' g.n g.k.com (EF g.κ q.s.V g.A g.n g.C g.l g.wr) g.l q { y with f:={ y.f with cs:=v },cs:=cs }:=
 have a:=h.yy
 { bT:=a.bT,bX:=a.bX,hT:=hT,hx:=hK.heap a.hx (λb=>l _ b _ _ _ a.hx sM),st:=a.st,sp:=a.sp.qM3 hK (λk hk c t fr e b=>l k hk c t fr e (by simp at b;simp[b])),m0:=a.m0,m1:=by have:=a.m1;show y.f.qN8<=T+2;omega,c0:=a.c0,c1:=by have:=a.c1;show y.f.chg<=T+2;omega,cm:=a.cm,wr:=a.wr,dn:=a.dn,ch0:=a.ch0,ch1:=by have:=a.ch1;show y.t.ch<=T+2;omega,stp:=a.stp,qP7:=qP7,qQ0:=qQ0,qO7:=qO7,cbs:=cbs,Cbs:=Cbs,live:=λj d=>{ on:=(a.live j d).on,rr:=(a.live j d).rr.qO1 hK (λk hk c t fr e b=>l k hk c t fr e (by simp[b])),qM7:=(a.live j d).qM7,cont:=(a.live j d).cont,wrt:=(a.live j d).wrt,red:=(a.live j d).red } }
def At.qW7(h:At base T w g q r i y)(I:q.s.po=false)
  (hd:LE y.f y.tb base (BZ y) (λx D=>w.heap.size<=x/\D.heap[x]?=some (AW y.f.x ⟨#[]⟩ 0)/\Qt g q D) [q.St,g.A] w w'):DStep AK base (T+2) w w' g:=by
 let⟨D,x,cb,v',L,⟨hCb,hC1,hS1⟩,hK1,hcb,hc',hT',hrow,hK2,hL,hv⟩:=hd;have j:=h.yy;have:=hK1.size;have:=h.hbs;let⟨_,_,_,O⟩:=h.ok.d.dev.at;have m:=h.sh I;have B:=(h.S.sh I).1;have z:MutC base [169,114,197,203] w (q.St::g.A::L):=λk d=>by
  rcases List.mem_cons.1 d with rfl|d
  .exact⟨h.S.bSt,_,_,_,h.S.hSt,dC⟩
  rcases List.mem_cons.1 d with rfl|d
  .exact⟨h.ok.d.bA,_,_,_,O,dC⟩
  .rcases hL k d with rfl|d
   .exact⟨j.bT,_,_,_,j.hT,dC⟩
   .let⟨N,c,u⟩:=Bg j.qP7 k (by simp[d]);exact⟨N,_,_,_,u,dC⟩
 have ac:∀k∈L,k<w.heap.size:=λk d=>z.qN9.lt (mM _ (mM _ d));have C:Kp (q.St::g.A::L) w w':=(hK1.mono (λk d _=>by simp at d |-;rcases d with h | h<;>simp[h])).trans hK2 (λk d _=>mM _ (mM _ d));have A:∀{k:Nat} {c:Array Value} {t:TypeId} {M:Nat×Nat},Ϙ w k (ϲ c t M)->t≠197->t≠203->k∉L:=λ{k _ _ _} d t1 t2 n=>by
  rcases hL _ n with e|e
  .exact υ d j.hT t1 e
  .let⟨_,c,u⟩:=Bg j.qP7 k (by simp[e]);exact υ d u t2 rfl
 have s:Dn g.κ g.A g.n g.C g.l g.ws g.wr g.ca D:=hS1.2;rw[Dn.ca0 s B,B]at s;have P:=hK1.heap m.dev.hV (by simp only[mC,lN,or_false,not_or];exact⟨υ m.dev.hV m.hSt dC,m.VA⟩);have o:=m.quiet j.hx (hK1.mono sC) (s.k (oW m.N8) P) hS1.1;have aa:q.s.M∉L:=λn=>by
  let⟨_,c,t,M,V,_⟩:=z _ (mM _ (mM _ n));exact AH V m.hM rfl
 have R:Dn g.κ g.A g.n g.C g.l [] g.wr [] w':=by
  let⟨b,p,v,c,N,u,W,h4,X⟩:=s.hA;rw[X rfl]at u;exact Dn.new (hK2.heap u (A O dC dC)) W (hK2.heap s.hC (A h.ok.d.dev.hC dC dC)) (h.ok.d.dev.gl.qM3 C (z.qN9.apt dC)) s.len s.N1
 have K:=o.qO4 hK2 (A m.hDb dC dC) (R.k (oW m.N8) (hK2.heap P (A m.dev.hV dC dC))) ⟨rfl,rfl,rfl,rfl,rfl,rfl⟩ (hK2.heap o.hSt (A m.hSt dC dC)) (o.hM.kp hK2 aa) o.m4 o.n1 o.bg0 o.kb o.rd;have ab:g.Dv g.κ w':=by
  show Dn g.κ g.A g.n g.C g.l g.ws g.wr g.ca w';rw[Dn.ca0 h.ok.d.dev B,B];exact R
 have F:∃E c,Ϙ w' q.s.M (.map E c):=by let⟨E,cM,F,_⟩:=K.hM;exact⟨E,cM,F⟩
 have Z:=hK2.heap hC1 (λn=>by have:=ac _ n;omega);have:=j.qQ0;refine h.step (q':=q) (y':={ y with f:={ y.f with cs:=v' },cs:=y.cs++[⟨cb,x,⟨#[]⟩,0⟩] }) C (λk d=>?_) rfl (λk d=>?_) ab K.hSt F (λ_=>⟨K,by rw[Ik kOf h.hi (by rw[h.hy];rfl)];exact(h.S.sh I).2.2⟩) ⟨rfl,rfl,rfl,rfl,rfl⟩ ⟨rfl,rfl,rfl,rfl,rfl⟩ (λ_ _ _ _ _ _=>rfl) (YOk.qT9 h C (z.qN9.apt dC) hT' ?_ ?_ (λc l=>?_) ?_ ?_)
 .simp only[mC]at d;rcases d with e|e|d
  .exact .inl (by simp[e])
  .exact .inl (by simp[e])
  .rcases hL k d with e|e
   .exact .inr (Bl.2 (.inl e))
   .exact .inr (Bl.2 (.inr (.inr (.inl e))))
 .rcases Bl.1 d with e|e|e|e|e
  .exact .inl (Bl.2 (.inl e))
  .exact .inl (Bl.2 (.inr (.inl e)))
  .rcases hv k e with e|e
   .exact .inl (Bl.2 (.inr (.inr (.inl e))))
   .exact .inr oM
  .simp only[BZ,List.map_append,List.mem_append]at e;rcases e with e|e
   .exact .inl (Bl.2 (.inr (.inr (.inr (.inl e)))))
   .simp at e;exact .inr oM
  .simp only[Ek,List.map_append,List.mem_append]at e;rcases e with e|e
   .exact .inl (Bl.2 (.inr (.inr (.inr (.inr e)))))
   .simp at e;exact .inr oM
 .rw[List.map_append,lA];exact hrow
 .rw[lA];simp only[lC,List.length_nil];omega
 .rcases mA l with l|l
  .have Q:Apt w (q.St::g.A::L) [282,80]:=z.qN9.apt dC;have d:=(j.qO7 c l).kp C (λn=>Q _ n _ _ _ (j.qO7 c l).hc dC) (λn=>Q _ n _ _ _ (j.qO7 c l).hC dC);exact⟨d.bc,d.bC,d.hc,d.hC,d.s0,d.s1,d.at_⟩
  .rw[mS l];refine⟨dO,dO,?_,Z,iR _,j.ch0,λS=>?_⟩
   .show Ϙ w' cb (Cz x ⟨#[]⟩ (!(⟨#[]⟩:ByteArray).toList.isEmpty) 0);rw[Hz];exact hc'
   .simp only[Hz]at S;cases S
 .rw[List.map_append,List.nodup_append];refine⟨j.cbs,sM,λa G b H e=>?_⟩;obtain⟨c,l,rfl⟩:=List.mem_map.1 G;have:=U (j.qO7 c l).hc;simp at H;omega
 .rw[List.map_append,List.nodup_append];refine⟨j.Cbs,sM,λa G b H e=>?_⟩;obtain⟨c,l,rfl⟩:=List.mem_map.1 G;have:=U (j.qO7 c l).hC;simp at H;omega
def ZX(h:At base T w g q r i y):CSt base T w g 136 #[ϖ g.B,ϖ y.tb]:=by
 have n:=h.yy;have:=h.T1;have p:ProgS w [q.St,g.A]:=h.qQ5 sC;by_cases l:q.s.po=true\/y.t.over=true
 .refine (ZT g.B y.tb g.κ.told g.k y.f y.ps [q.St,g.A] (λf=>Qt g q f/\Kp [q.St,g.A] w f) w h.look p (goK q.s) (h.goes l) ((qG3 y.f.x y.t q.s w n.hx l h.qR5 h.xS).mono ?_)).mono λe w' ⟨a,f,b,_,d⟩=>⟨a,h.looks (ko:=none) (.inl ⟨rfl,b.1,b.2⟩) (.inl ⟨rfl,d⟩)⟩;rintro e w' ⟨v,a,b,c,d⟩;let⟨o,k⟩:=h.over c d;exact⟨v,a,b,⟨o,k⟩,k⟩
 simp[not_or,Bool.not_eq_true]at l;let⟨m,s⟩:=l;refine(ZU g.B y.tb g.κ.told g.k y.f y.ps base (BZ y) [q.St,g.A] (λj f=>w.heap.size<=j/\Ϙ f j (AW y.f.x ⟨#[]⟩ 0)/\Qt g q f) w h.look p (by rw[h.ep];exact m) (by rw[n.dn,s]) n.qP7 (by have:=n.qQ0;simp[BZ];omega) h.hbs ((qG2 _ y.f.x g.A g.n y.t q.s y.r w (h.live m s)).mono ?_)).mono λe w' ⟨a,b⟩=>⟨a,h.qW7 m b⟩;rintro e w' ⟨j,rfl,a,b,c⟩;let⟨o,k⟩:=h.bad m c;exact⟨j,rfl,⟨a,b,o⟩,k⟩
def At.qZ6(h:At base T w g q r i y)(I:q.s.po=false)(ho:y.t.over=false)(j:Nat)(s:j<y.cs.length)(o:Option KV)(ae:∀p,o=some p->p∈y.ps){W w1}{N:Nat}(aj:Kp [] w W)(Z:Qt g q w1)(ag:w1.heap[y.cs[j].Cb]?=some (AW y.f.x (pkv o).k y.t.ch))(ak:Kp [q.St,g.A,y.cs[j].Cb] W w1)(hN:w.heap.size<=N)(am:w'.heap[y.cs[j].cb]?=some (Cz y.cs[j].Cb (pkv o).k o.isSome y.f.stp))(A:Kp [N,y.cs[j].cb] w1 w'):DStep AK base (T+2) w w' g:=by
 have d:=h.yy;have ac:=d.live I ho;have l:=h.sh I;have E:=(h.S.sh I).1;let⟨ap,ad⟩:=Gp ac.qM7;rw[ac.cont]at ap ad;let⟨_,_,_,G⟩:=h.ok.d.dev.at;have m:=d.qO7 _ (gM s);have ai:=υ m.hC m.hc dC;have ah:y.cs[j].Cb≠N:=λe=>by have:=U m.hC;omega
 have B:MutC base [169,114,282,80] w [q.St,g.A,y.cs[j].Cb,y.cs[j].cb]:=λk a=>by
  simp only[mC,lN,or_false]at a;rcases a with rfl|rfl|rfl|rfl
  .exact⟨h.S.bSt,_,_,_,h.S.hSt,dC⟩
  .exact⟨h.ok.d.bA,_,_,_,G,dC⟩
  .exact⟨m.bC,_,_,_,m.hC,dC⟩
  .exact⟨m.bc,_,_,_,m.hc,dC⟩
 have n:Kp [q.St,g.A,y.cs[j].Cb,y.cs[j].cb] w w':=((aj.mono sM).trans ak (λk a _=>by simp at a |-;rcases a with e | e | e<;>simp[e])).trans A (λk a hl=>by
  simp at a;rcases a with e|e
  .omega
  .simp[e])
 have af:=A.heap ag (by simp;exact⟨ah,ai⟩);have H:∀{k:Nat} {o:Obj},Ϙ w k o->k≠N:=λa e=>by have:=U a;omega
 have Q:∀{k:Nat} {c:Array Value} {t:TypeId} {X:Nat×Nat},Ϙ w k (ϲ c t X)->t≠282->k∉[N,y.cs[j].cb]:=λa t1=>by simp only[mC,lN,or_false,not_or];exact⟨H a,υ a m.hc t1⟩
 have aa:Dn g.κ g.A g.n g.C g.l [] g.wr [] w':=by
  have z:Dn g.κ g.A g.n g.C g.l g.ws g.wr g.ca w1:=Z.2;rw[Dn.ca0 z E,E]at z;let⟨b,p,v,c,h1,F,h3,h4,h5⟩:=z.hA;rw[h5 rfl]at F;exact Dn.new (A.heap F (Q G dC)) h3 (A.heap z.hC (Q h.ok.d.dev.hC dC)) (h.ok.d.dev.gl.qM3 n (B.qN9.apt dC)) z.len z.N1
 have S:=l.qO4 n (B.qN9.not l.hDb dC) (aa.k (oW l.N8) (n.heap l.dev.hV (B.qN9.not l.dev.hV dC))) ⟨rfl,rfl,rfl,rfl,rfl,rfl⟩ (A.heap Z.1 (Q l.hSt dC)) (l.hM.kp n λC=>by
  let⟨_,c,t,X,b2,_⟩:=B _ C;exact AH b2 l.hM rfl) l.m4 l.n1 l.bg0 l.kb l.rd
 have an:g.Dv g.κ w':=by
  show Dn g.κ g.A g.n g.C g.l g.ws g.wr g.ca w';rw[Dn.ca0 h.ok.d.dev E,E];exact aa
 have O:∃M c,Ϙ w' q.s.M (.map M c):=by let⟨M,cM,O,_⟩:=S.hM;exact⟨M,cM,O⟩
 have P:∀K:List TypeId,(∀t∈K,t∉[169,114,282,80])->Apt w [q.St,g.A,y.cs[j].Cb,y.cs[j].cb] K:=λK hT=>B.qN9.apt hT;have L:(y.cs.set j ⟨y.cs[j].cb,y.cs[j].Cb,(pkv o).k,y.t.ch⟩).map CG.cb=BZ y:=PW CG.cb s rfl;have V:(y.cs.set j ⟨y.cs[j].cb,y.cs[j].Cb,(pkv o).k,y.t.ch⟩).map CG.Cb=Ek y:=PW CG.Cb s rfl;have al:∀k (a:k<y.cs.length),j≠k->y.cs[k].cb≠y.cs[j].cb/\y.cs[k].Cb≠y.cs[j].Cb:=λk a R=>by
  have D:=pG d.cbs;have n2:=pG d.Cbs;simp only[BZ,Ek,List.length_map,List.getElem_map]at D n2;rcases Nat.lt_or_gt_of_ne R with H|ab
  .exact⟨λe=>D j k s a H e.symm,λe=>n2 j k s a H e.symm⟩
  .exact⟨D k j a s ab,n2 k j a s ab⟩
 refine h.step (q':=q) (y':={ y with f:={ y.f with cs:=y.f.cs },cs:=y.cs.set j ⟨y.cs[j].cb,y.cs[j].Cb,(pkv o).k,y.t.ch⟩ }) n (λk a=>?_) rfl (λk a=>?_) an S.hSt O (λ_=>⟨S,by rw[Ik kOf h.hi (by rw[h.hy];rfl)];exact(h.S.sh I).2.2⟩) ⟨rfl,rfl,rfl,rfl,rfl⟩ ⟨rfl,rfl,rfl,rfl,rfl⟩ (λ_ _ _ _ _ _=>rfl) (YOk.qT9 h n (P _ dC) (n.heap d.hT (λC=>P [197] dC _ C _ _ _ d.hT dC)) ?_ ?_ (λc hc=>?_) ?_ ?_)
 .simp only[mC,lN,or_false]at a;rcases a with e|e|e|e
  .exact .inl (by simp[e])
  .exact .inl (by simp[e])
  .exact .inr (Bl.2 (.inr (.inr (.inr (.inr (List.mem_map.2 ⟨_,gM s,e.symm⟩))))))
  .exact .inr (Bl.2 (.inr (.inr (.inr (.inl (List.mem_map.2 ⟨_,gM s,e.symm⟩))))))
 .rcases Bl.1 a with e|e|e|e|e
  .exact .inl (Bl.2 (.inl e))
  .exact .inl (Bl.2 (.inr (.inl e)))
  .exact .inl (Bl.2 (.inr (.inr (.inl e))))
  .rw[BZ,L]at e;exact .inl (Bl.2 (.inr (.inr (.inr (.inl e)))))
  .rw[Ek,V]at e;exact .inl (Bl.2 (.inr (.inr (.inr (.inr e)))))
 .rw[L];refine CO d.qP7 n (λk a C=>?_);let⟨_,c,F⟩:=Bg d.qP7 k (by simp[a]);exact P [203] dC _ C _ _ _ F dC
 .have:=d.qQ0;rw[List.length_set];omega
 .obtain⟨k,a,rfl⟩:=gO hc;simp only[List.length_set]at a;rw[List.getElem_set];split
  .refine⟨m.bc,m.bC,?_,af,d.ch0,iR _,λhx _ _=>?_⟩
   .show w'.heap[y.cs[j].cb]?=some (Cz y.cs[j].Cb (pkv o).k (!(pkv o).k.toList.isEmpty) y.t.ch);rw[<-Za ad ae,<-d.stp];exact am
   .cases o with
    | none=>
     simp only[pkv,Hz]at hx;cases hx
    | some p=>
     let⟨k',ao,e⟩:=gO (ae p rfl);exact⟨k',ao,by rw[e];rfl⟩
  .rename_i R;have u:=d.qO7 _ (gM a);let⟨D,n2⟩:=al k a R;have x:=u.kp n (by
    simp only[mC,lN,or_false,not_or];exact⟨υ u.hc h.S.hSt dC,υ u.hc G dC,υ u.hc m.hC dC,D⟩) (by
    simp only[mC,lN,or_false,not_or];exact⟨υ u.hC h.S.hSt dC,υ u.hC G dC,n2,υ u.hC m.hc dC⟩)
   exact⟨x.bc,x.bC,x.hc,x.hC,x.s0,x.s1,x.at_⟩
 .rw[L];exact d.cbs
 .rw[V];exact d.Cbs
def WF{l}{a:Int}{p}(h:CF l a=some p):p∈l:=by
 unfold CF at h;split at h
 .cases h
 .exact mO h
def At.qZ9(h:At base T w g q r i y){c:CG}(d:c∈y.cs):ProgS w [q.St,g.A,c.Cb]:=λk b=>by
 have:=h.hb;have a:=h.yy.qO7 c d;simp[mC,lN,or_false]at b;rcases b with rfl|rfl|rfl
 .exact h.prog _ sM
 .exact h.prog _ sM
 .exact⟨oW a.bC,λc t f e=>by rw[a.hC]at e;cases e;decide⟩
end
def YD{l}(d:Sorted l){key sk}{a:Nat}(e:Hw a)(c:3<=a->∃j,∃h:j<l.length,l[j].k=key):mvO l key sk a=CF l (Fg l key sk a):=by
 rcases e with rfl|rfl|rfl|rfl|rfl
 .exact VE l
 .exact XC l
 .exact qD6 l sk
 .obtain⟨j,b,rfl⟩:=c dC;exact YM d b
 .obtain⟨j,b,rfl⟩:=c dC;exact ZW d b
def OU{a:Nat}(b:Hw a):mvH a=true↔3<=a:=by
 rcases b with rfl|rfl|rfl|rfl|rfl<;>simp[mvH]
section
variable {base i:Nat} {T:Int} {w w' w1:Ϣ} {q:SG} {y:YG} {g:TG} {r:Root} {N:Nat}
def At.stay(h:At base T w g q r i y){Jj:ϩ}(n:Lks g q w Jj w1)(z:w.heap.size<=N)(u:(ioK Jj=false/\Kp [N] w1 w')\/(ioK Jj=true/\Kp [N,g.B] w1 w'/\w'.heap[g.B]?=some (kob { g.k with po:=true }))):DStep AK base (T+2) w w' g:=by
 let⟨_,_,_,s⟩:=h.ok.d.dev.at;have d:∀{k:Nat} {o:Obj},Ϙ w k o->k≠N:=λa e=>by have:=U a;omega
 have t:∀k∈g.ca,k≠N/\k≠g.B:=λk a=>by let⟨c,e⟩:=Dn.qS3 h.ok.d.dev a;exact⟨d e,υ e h.ok.d.hB dC⟩
 have v:=h.ok.d.ne;rcases n with⟨e,j,m⟩|⟨e,j,m⟩
 .rcases u with⟨_,b⟩|⟨f,_⟩
  .have l:=m.trans b (λk a n=>by simp at a;omega);have p:=h.qN9 (L:=[q.St,g.A]) (λk a=>.inl (by simp at a |-;rcases a with e | e<;>simp[e]));exact h.quiet (b.heap j.1 (sU (d h.S.hSt))) (Dn.move j.2 b (sU (d s)) (sU (d h.ok.d.dev.hC)) (λk a=>by simpa using(t k a).1) (h.ok.d.dev.gl.qM3 l (p.apt dC))) l
  .rw[e]at f;cases f
 .rcases u with⟨f,_⟩|⟨_,b,x⟩
  .rw[e]at f;cases f
  .have l:Kp [q.St,g.A,g.B] w w':=(m.mono sC).trans b (λk a n=>by simp at a |-;rcases a with e | e;omega;simp[e]);have p:=h.qN9 (L:=[q.St,g.A,g.B]) (λk a=>.inl (by simp at a |-;rcases a with e | e | e<;>simp[e]));exact h.qS6 (b.heap j.1 (by simp[mC,lN,or_false,not_or];exact⟨d h.S.hSt,υ h.S.hSt h.ok.d.hB dC⟩)) (Dn.move j.2 b (by simp[mC,lN,or_false,not_or];exact⟨d s,v.1⟩) (by simp[mC,lN,or_false,not_or];exact⟨d h.ok.d.dev.hC,v.2⟩) (λk a=>by simpa using t k a) (h.ok.d.dev.gl.qM3 l (p.apt dC))) x l
def YF(h:At base T w g q r i y)(j:Nat)(O:j<y.cs.length)(l:Nat)(M:l<5)(key):CSt base T w g 137 #[ϖ g.B,ϖ y.tb,ϖ (y.cs[j].cb),ϊ (l:Nat),ϕ key]:=by
 have z:Hw l:=by unfold Hw;omega
 have B:=h.yy;let⟨_,_,_,hA⟩:=h.ok.d.dev.at;have G:=B.qO7 _ (gM O);have ad:∀k∈[q.St,g.A,y.cs[j].Cb],k<w.heap.size:=λk f=>by
  simp[mC,lN,or_false]at f;rcases f with rfl|rfl|rfl
  .exact U h.S.hSt
  .exact U hA
  .exact U G.hC
 have mk:DU l (l:Nat):=by
  rcases z with rfl|rfl|rfl|rfl|rfl
  .exact Yn
  .exact Yo
  .exact Yp
  .exact Yq
  .exact Yr
 have hL:=h.look;refine(mk g.B y.tb y.cs[j].cb y.cs[j].Cb g.κ.told g.k y.f y.ps y.cs[j].key (!y.cs[j].key.toList.isEmpty) y.cs[j].since key [q.St,g.A,y.cs[j].Cb] (λJj o w1=>(Jj=none/\(q.s.po=false/\y.t.over=false)/\(∀p,o=some p->p∈y.ps)/\Qt g q w1/\w1.heap[y.cs[j].Cb]?=some (AW y.f.x (pkv o).k y.t.ch))\/(Jj≠none/\Lks g q w Jj w1)) w _ hL (h.qZ9 (gM O)) ad G.hc rfl (Yx z (lT hL.sz dC)) ?_).mono λe w' ⟨a,Jj,o,W,w1,N,t,m,b3,b4,b5⟩=>⟨a,?_⟩
 rotate_left
 .rcases m with⟨rfl,⟨s,A⟩,c1,c2,c3⟩|⟨c0,c1⟩
  .rcases b5 with⟨_,C,D⟩|⟨d,_⟩|⟨d,_⟩
   .exact h.qZ6 s A j O o c1 t c2 c3 b3 b4 C D
   .exact absurd rfl d
   .cases d
  .rcases b5 with⟨d,_⟩|⟨_,C,D⟩|⟨C,D⟩
   .exact absurd d c0
   .exact h.stay c1 b4 (.inl ⟨C,D⟩)
   .exact h.stay c1 b4 (.inr ⟨C,D⟩)
 intro W E;have u:=h.same E;have Z:=E.hp G.hC;by_cases K:q.s.po=true\/y.t.over=true
 .apply (SC z u.yy.hx K u.qR5 u.xS Z).mono;rintro e w' ⟨v,rfl,b,c,d⟩;let⟨t,m⟩:=u.over c d;refine⟨v,some (goK q.s),none,rfl,b,?_,.inr ⟨sM,.inl ⟨FM _,t,(E.mono sM).trans m (λ_ f _=>f)⟩⟩,m.mono sC⟩;rcases h.goes K with⟨a,b⟩|⟨a,b,c⟩
  .exact .inl ⟨a,by rw[b],rfl⟩
  .exact .inr (.inl ⟨a,by rw[c],b,rfl⟩)
 simp[not_or,Bool.not_eq_true]at K;let⟨s,A⟩:=K;have Q:g.k.po=false:=by rw[h.ep];exact s
 have L:y.f.dn=false:=by rw[B.dn];exact A
 have P:=B.live s A;let⟨ac,aa⟩:=Gp P.qM7;rw[P.cont]at ac aa;apply(c_l (sk:=key) z (u.live s A) Z).mono;rintro e w' ⟨v,Jj,rfl,R,F⟩;rw[P.cont]at *;by_cases n:3<=l/\(y.cs[j].key.toList.isEmpty=true\/y.cs[j].since≠y.t.ch)
 .have e:Dy (mvH l) y.cs[j].key y.cs[j].since y.t.ch=some 11:=if_pos ⟨(OU z).2 n.1,n.2⟩;rw[e]at F;rcases F with⟨e,_⟩|⟨rfl,_,hb⟩
  .cases e
  .let⟨t,m⟩:=u.bad s (hb sM);exact⟨v,some 11,none,rfl,R,.inr (.inr (.inl ⟨Q,rfl,L,n.1,by rw[B.stp];rcases n.2 with n | n;exact .inl (by rw[n];rfl);exact .inr n,rfl⟩)),.inr ⟨sM,.inl ⟨rfl,t,(E.mono sM).trans m (λ_ f _=>f)⟩⟩,m.mono sC⟩
 have f:3<=l->y.cs[j].key.toList.isEmpty=false/\y.cs[j].since=y.t.ch:=λx=>by simpa [x,not_or] using n
 have ab:3<=l->(!y.cs[j].key.toList.isEmpty)=true/\y.cs[j].since=y.f.stp:=λx=>⟨by rw[(f x).1];rfl,by rw[(f x).2,B.stp]⟩;have e:Dy (mvH l) y.cs[j].key y.cs[j].since y.t.ch=none:=if_neg λM=>n ⟨(OU z).1 M.1,M.2⟩;rw[e]at F;have hid:=YD (sk:=key) ac z (key:=y.cs[j].key) (λx=>G.at_ (f x).1 (f x).2 A);rcases F with⟨_,I,ag⟩|⟨rfl,hc,_⟩
 .let⟨t,m⟩:=u.ill s ag;have ae:Ck (mvO y.ps y.cs[j].key key l) Jj=none:=by cases Jj with | none=>cases I | some k=>rfl
  exact⟨v,Jj,none,by rw[ae],R,.inr (.inr (.inr (.inl ⟨Q,I,L,ab,rfl,u.told t⟩))),.inr ⟨(Ci I).2,.inr ⟨I,t,(E.mono sM).trans m (λ_ f _=>f)⟩⟩,m.mono sC⟩
 .have H:=hc rfl;have V:=H.hSt;have X:=H.kp;have hd:=(show Dw _ _ _ _ _ _ _ _ _ w' from H.dev).n;have S:=(h.S.sh s).1;rw[B.st]at V X;refine⟨v,none,mvO y.ps y.cs[j].key key l,rfl,R,.inr (.inr (.inr (.inr ⟨Q,rfl,L,ab,aa,hid⟩))),.inl ⟨rfl,⟨s,A⟩,λp af=>WF (hid.symm.trans af),⟨V,?_⟩,H.hC⟩,X.mono (λk f _=>?_)⟩
  .show Dn g.κ g.A g.n g.C g.l g.ws g.wr g.ca w';rw[Dn.ca0 h.ok.d.dev S,S];exact hd
  .simp[mC,lN,or_false]at f |-;rcases f with e|e|e
   .exact .inl e
   .exact .inr (.inr e)
   .exact .inr (.inl (by simpa [EF,EW] using e))
end
end Gf
namespace Gf
open Gw (TK Books CI CD Muts MutC DInv CO DStep WOk I64 BU Ie)
open Go.ChangeMaps
section
variable {base:Nat} {T:Int} {w w':Ϣ} {g:TG}
def TOk.qU2(h:TOk base T w g){κ}(hK:Kp [g.A] w w')(p:g.Dv κ w')(O:κ.told=g.κ.told):DStep AK base (T+2) w w' g:=by
 have G:OfD g [g.A]:=λk a=>.inr (.inl (by simpa using a));have d:=h.d.qN9 G;have K:=h.d.ne;have:=h.d.td0;have:=h.d.td1;let⟨_,_,_,F⟩:=h.d.dev.at;have:=h.qR9;have:=h.hlen;refine⟨{ g with κ:=κ },[g.A],⟨{ h.d.qS7 g.k.ts g.k.li g.k.wa g.k.po κ g.so g.ys g.hs hK (T':=T+2) oM (hK.heap h.d.hB (by simpa using K.1.symm)) p oM oM (d.apt dC) with },Gw.Held.kp h.held hK (λk a=>?_) (λk a=>?_) (d.apt dC),by show((g.hs.length:Nat):Int)<=T+2;omega,λx L=>by have:=h.hps x L;omega,CO h.row hK (λk a=>?_),by show((g.ys.length:Nat):Int)<=T+2;omega,?_,h.sep⟩,rfl,λk a=>.inl a,hK,λk a=>Az.2 (by simp at a;simp[a])⟩
 .let⟨_,c,i⟩:=Bg h.held.li k (by simp[a]);exact d.not i dC
 .let⟨_,c,i⟩:=Bg h.held.wa k (by simp[a]);exact d.not i dC
 .let⟨_,c,i⟩:=Bg h.row k (by simp[a]);exact d.not i dC
 .rcases h.so with E|⟨q,r,z,A,B,C,M,D,b⟩
  .exact .inl E
  have o:q.s.M≠g.A:=λe=>by let⟨n,c,hM⟩:=b.hM;rw[e,F]at hM;cases hM
  refine .inr ⟨q,r,z,A,B,C,oM,D.qM3 hK (d.apt dC),b.bSt,b.bM,hK.heap b.hDb (d.not b.hDb dC),hK.heap b.hSt (d.not b.hSt dC),by let⟨n,c,hM⟩:=b.hM;exact⟨n,c,hK.heap hM (by simpa using o)⟩,λj=>?_,by have:=b.bg1;omega,by have:=b.nM;omega,λy s=>?_⟩
  .let⟨e,f,H⟩:=b.sh j;have l:Dn κ g.A g.n g.C g.l g.ws g.wr g.ca w':=p;rw[Dn.ca0 l e,e]at l;refine⟨e,{ f with hDb:=hK.heap f.hDb (d.not f.hDb dC),hSt:=hK.heap f.hSt (d.not f.hSt dC),hM:=f.hM.kp hK (by simpa using o),dev:=l.k (by have:=f.N8;omega) (hK.heap f.dev.hV (d.not f.dev.hV dC)) },H⟩
  .have m:=(b.ys y s).kp hK (T':=T+2) oM (λk a=>?_) (d.apt dC)
   .exact { m with live:=λj ho=>{ m.live j ho with rr:=(m.live j ho).rr } }
   .let⟨_,c,t,N,u,v⟩:=(b.ys y s).qR8 k a;exact d.not u (λI=>by revert v I;simp only[yTs,List.mem_cons,List.not_mem_nil,or_false];rintro (rfl | rfl | rfl | rfl | rfl)<;>decide)
def TOk.qZ1(h:TOk base T w g)(q:26000<=T)(t:base<=w.heap.size)(hK:Kp [g.B] w w'){κ}{a b:Nat}{l'}(p:w'.heap[g.B]?=some (kob { g.k.shut with A:=a }))(o:w.heap.size<=a)(i:b=g.C\/w.heap.size<=b)(d:Mixed g.n g.l g.ws l')(r:Dn κ a g.n b l' [] 0 [] w')(u:κ.told=0):DStep AK base (T+2) w w' g:=by
 have j:OfD g [g.B]:=λk c=>.inl (by simpa using c);have l:=h.d.maps j;let⟨f,s,n⟩:=h.d.left d;have:=h.d.nm1;have:=h.d.nm2;have:=h.d.bC;refine h.qT0 (g':=TG.bare g.B b { g.k.shut with A:=a } κ l' [] 0 [] f g.qN7 g.qM8 g.hs) q hK j ⟨rfl,.inr o,i,rfl,rfl⟩ (λk c=>by cases c) ⟨rfl,rfl,rfl⟩ (by simp[TG.bare,BQ]) ?_ (.inl ⟨rfl,rfl,rfl⟩);exact⟨h.d.bB,by show base<=a;omega,by show base<=b;rcases i with e | e<;>omega,λk c=>(by cases c),p,h.d.n1,h.d.wl,r,n,by show f<=T+2;omega,by show f<=100000;omega,by show 0<=κ.told;omega,by show κ.told<=T+2;omega,by show((0:Nat):Int)<=T+2-20000;omega,Int.le_refl _,by show(0:Int)<=15002*(T+2-26000);omega,h.d.may.kp hK l,h.d.qN4.kp hK l,by have:=h.d.qR6;show((g.qN7.length:Nat):Int)<=T+2;omega,by have:=h.d.qR2;show((g.qM8.length:Nat):Int)<=T+2;omega,λm d=>by have:=h.d.mms m d;omega,h.d.qQ9,by have:=h.d.qR4;show g.k.com<=T+2;omega⟩
end
def Zq(base d:Nat)(T:Int)(f:List AK.G)(k x y a b:Int)(s t)(w)(h:WOk AK base T w d f)(hT:T<=60000)(hx:I64 x)(ha:I64 a)(hb:I64 b)(hd:1<=f.length)(hk:k=6\/k=7\/k=8):
  Ω 124 #[ϖ d,.agg #[ϊ k,ϊ x,ϊ y,ϊ a,ϊ b,ϕ s,ϕ t]] w λe w'=>e=ϱ (ϐ true)/\(∃ds',WOk AK base (T+2) w' d ds')/\Below base w w':=by
 have Sz:Hid (∀{p:Prop},(_h:p:=by
  rintro e M ⟨rfl,D,a7,ht,an⟩;have HE:=hid (aa M (DStep.from G (TOk.qU2 (C.qM3 G (Muts.nil _ _ _) sM (Int.le_refl _)) D an ht) C.qN9));clear D an q;go_wp2;go_ret;exact⟨rfl,HE⟩)->p):=λh=>h
 have h':=h;let⟨u,nk,r,xs,pd,v,P,h2,h3,h4⟩:=h.hW;obtain⟨n,cur,rfl,bc,ad,am⟩:=Ib h4 hd;have O:=hid h';have bb:=U P;have bd:=U ad;have hl:=h.len;have a6:=h.hbs;have be:¬((f.length:Int)=0):=oM
 have e1:¬k<5:=oM
 have e2:¬9<k:=oM
 have e5:¬k=5:=oM
 have ay:=hid hk;have ae:=Cm h2;have ar:xs.length=nk:=by have:=ae.len;simp[Cr]at this;omega
 have a2:=hid (show xs.length<=100000 by omega);have az:=hid (show Slc w 3 1 (.slice u nk r) xs.length (Cr xs) by rw[ar];exact ae);clear ae ar;have k1:=ϻ P 1;clear h h' h2 h3 h4 hk;go_enter func124,ntmps124;go_wp2_with fail;obtain⟨i,al,z,V,ak,R⟩:∃i,i=w.alloc (ϲ #[ϊ k,ϊ x,ϊ y,ϊ a,ϊ b,.string s,.string t] 66)/\i.heap[w.heap.size]?=some (ϲ #[ϊ k,ϊ x,ϊ y,ϊ a,ϊ b,.string s,.string t] 66)/\i.heap[d]?=some (AY u nk r (some (ϰ n 0)) f.length v)/\i.heap[n]?=some (ϲ cur 119)/\Kp [] w i:=⟨_,rfl,μ _ _,ν _ P,ν _ ad,(Kp.refl _ _).alloc _⟩;rw[<-al];clear al P ad k1;have l:i.drew.heap[d]?=some (AY u nk r (some (ϰ n 0)) f.length v)/\i.drew.heap[w.heap.size]?=some (ϲ #[ϊ k,ϊ x,ϊ y,ϊ a,ϊ b,.string s,.string t] 66)/\i.drew.heap[n]?=some (ϲ cur 119):=⟨V,z,ak⟩;refine wp_region_held_drew (S:=λW=>W.heap[d]?=some (AY u nk r (some (ϰ n 0)) f.length v)/\W.heap[w.heap.size]?=some (ϲ #[ϊ k,ϊ x,ϊ y,ϊ a,ϊ b,.string s,.string t] 66)/\W.heap[n]?=some (ϲ cur 119)) kR l (λ_=>?_);refine zP 0 d 0 l ?_;refine zP 1 d 0 l ?_;refine zP 2 d 1 l ?_;refine zV 3 (.slice (some (ϰ n 0)) f.length v) rfl (λW m=>by have c:=Y m.1 1;simp[AY]at c;clear m;go_simp) l ?_;refine zP 4 w.heap.size 1 l ?_;refine zV 5 (ϊ x) rfl (λW m=>by have c:=Y m.2.1 1;simp at c;clear m;go_simp) l ?_;refine zP 6 d 0 l ?_;refine zP 7 d 0 l ?_;refine zP 8 d 1 l ?_;refine zV 9 (.slice (some (ϰ n 0)) f.length v) rfl (λW m=>by have c:=Y m.1 1;simp[AY]at c;clear m;go_simp) l ?_;refine zU 10 (ϊ f.length) l ?_;refine zq 11 λK hK=>?_;go_simp;refine(EG x f.length _ hx.1 hx.2 oM oM).mono ?_;rintro e w2 ⟨j,rfl,X,rfl⟩;refine zk hK l ?_
 refine zU 12 (.pointer (some (ϰ n j))) l ?_;refine zV 13 (ϖ (AK.B f[j])) rfl (λW m=>by have c:=Y m.2.2 j;rw[Ie am j X]at c;clear m;go_simp) l ?_;refine zU 14 (ϖ (AK.B f[j])) l ?_;refine zd ?_;have C:=hid (show TOk base T w f[j] from O.all f[j] (List.getElem_mem X));have aa:=hid (show ∀w',DStep AK base (T+2) w w' f[j]->(∃ds',WOk AK base (T+2) w' d ds')/\Below base w w' from λw' hs=>⟨O.one j X hs oM,hs.below C O.hbs⟩);have a0:=hid O.t0;obtain⟨g,ao⟩:∃g:TG,f[j]=g:=⟨_,rfl⟩;have aj:AK.B g=g.B:=rfl;rw[ao]at C aa |-;rw[aj];clear ao aj;have hB:=C.out.d.hB;have ab:=hid ((C.d.dev.qM4 R).qM4 (Kp.refl [] _).drew);have H:=R.hp hB;have N:=hid (show i.drew.heap[g.B]?=some (kob g.k) from H);have G:=hid (show Kp [] w i.drew from R.drew);have a1:=hid (show i.drew.heap[d]?=some (AY u nk r (some (ϰ n 0)) f.length v) from V);have a8:=hid (show i.drew.heap[w.heap.size]?=some (ϲ #[ϊ k,ϊ x,ϊ y,ϊ a,ϊ b,.string s,.string t] 66) from z);have aw:=hid (show g.B≠d/\g.B≠w.heap.size from⟨υ H V dC,υ H z dC⟩);have o0:=ϻ z 0;have o3:=ϻ z 3;have o4:=ϻ z 4;have ba:=U z;have a9:=U H;clear l am ak hB H R V z X;go_wp2_with fail;refine(Hu a _ ha.1 ha.2).mono ?_;rintro e w2 ⟨ja,rfl,rfl⟩;go_wp2_with fail;refine(Hu b _ hb.1 hb.2).mono ?_;rintro e w2 ⟨jb,rfl,rfl⟩;rcases ay with rfl|rfl|rfl
 .clear o3 o4;have q:=Y (w:=i.drew) N 0;simp only[kob,zG,zH]at q;go_wp2_with fail;refine(YW ab _).mono ?_;exact Sz.out
 .clear o3 o4;have q:=Y (w:=i.drew) N 0;simp only[kob,zG,zH]at q;go_wp2_with fail;refine(RQ ab _ _).mono ?_;exact Sz.out
 .clear o3 o4;go_wp2_with fail;have o:i.drew.drew.heap[d]?=some (AY u nk r (some (ϰ n 0)) f.length v):=a1.out;refine wp_region_held_drew (S:=λW=>W.heap[d]?=some (AY u nk r (some (ϰ n 0)) f.length v)) kR o (λ_=>?_);refine zP 0 g.B 0 o ?_;refine zP 1 g.B 0 o ?_;refine zP 2 g.B 0 o ?_;refine zP 3 g.B 0 o ?_;refine zP 5 d 0 o ?_;refine zP 6 d 0 o ?_;refine zP 7 d 0 o ?_;refine zV 8 (.slice u nk r) rfl (λW m=>by have c:=Y m 0;simp[AY]at c;clear m;go_simp) o ?_;refine zq 4 λK hK=>?_;have q:=Y (w:=i.drew.drew) N 0;simp only[kob,zG,zH]at q;go_simp;refine hK.out _ _ o (λ_=>?_);clear hK K q
  try simp only[zZ]
  refine zq 9 λK hK=>?_;go_simp;refine(Rl (ab.qM4 (Kp.refl [] _).drew) 3 (.slice u nk r) xs (az.qM3 (G.drew) (Apt.nil _ _)) a2).mono ?_;rintro e M ⟨Z,C',l',a7,rfl,c1,c2,ct,cm,ah,D⟩;have ap:w.heap.size<=i.drew.drew.heap.size:=G.out.size;have E:=D.heap (k:=g.B) N sM;have L:=D.hp o;refine zk hK L ?_
  refine zP 10 g.B 0 L ?_;refine zP 11 g.B 0 L ?_;refine zq 12 λK hK=>?_;have q:=Y E 0;have f0:=ρ E 0;have a3:=U E;simp only[kob,zG,zH]at q;go_simp;obtain⟨F,aq,ai,ac⟩:∃F,F=M.setCell (ϰ g.B 0) (ϖ Z)/\F.heap[g.B]?=some (kob { g.k with A:=Z })/\Kp [g.B] M F:=⟨_,rfl,ξ E 0 _,(Kp.refl _ _).sc _⟩;rw[<-aq];refine hK.out _ _ (ac.heap L (by simpa using aw.1.symm)) (λ_=>?_);clear hK K aq q f0;refine zd ?_
  try simp only[zZ]
  have au:=hid E;have av:=hid ai;have af:=hid ac;have ax:=hid (show Kp [] w M from(G.drew).tr D);clear E L o ai ac D a3;have ag:=hid (show ∀B,B.heap[g.B]?=some (kob ({ g.k with A:=Z }:KF).shut)->Kp [g.B] F B->DStep AK base (T+2) w B g from λB Q I=>by
   have a4:Kp [g.B] w B:=((ax.mono sM).tr af).tr I;have a5:=af.out.tr I;exact TOk.qZ1 C a0 a6 a4 Q (Nat.le_trans ap c1) (c2.imp id λh=>Nat.le_trans ap h) cm (ah.qM3 a5 (OffD.one au dC)) ct)
  clear c2 cm ah;go_wp2_with fail;refine(Jk g.B _ F av).mono ?_;rintro e B ⟨rfl,Q,I⟩;have HE:=hid (aa B (ag B Q I));clear Q I ag;go_wp2;go_ret;exact⟨rfl,HE⟩
end Gf
namespace Gw
open Go Go.ChangeShapes Go.WideShapes Go.RowKit Go.Deep
section
variable {H:Type} {enc:Ϯ×Value→H}
def XU{a:Assume}{C:Checked}{os:Os}{f:FuncId}{b:Func}{s:ChangeSpec}{n:List PathCond}{d o p m:Bool}{X:Ϣ->ϧ->Prop}
  (u:∀(w w':Ϣ)(args:ϧ),w.heap=w'.heap->X w args->X w' args)
  (I:ownKnob C.prog.godebug=none) (K:os.Started) (G:C.prog.inits.idxOf? f=none) (z:C.prog.funcs[f]?=some b)
  (L:∃(w:Ϣ)(c:Tape)(i:Input),w.os=os/\(w.forCall c i).Shaped C.prog/\i.vars=[]/\Input.okWide C.prog (w.forCall c i) .any w.heap.size f i/\
   ((s.pre enc C.prog b n d (w.forCall c i).memory i.args/\X (w.forCall c i).memory i.args)/\sizedMet enc C.prog b (OpenSpec.ofChange s) d (w.forCall c i).memory i.args)/\a.holds C.prog (lone (Frame.enter C.prog f i.args .normal) [] (w.forCall c i)))
  (x:∀(W:Ϣ)(base:Nat)(args:ϧ) (h k:List (DataW H)) (g:List MemPlace),
   (∀(j:Nat) t v,b.params[j]?=some t->args[j]?=some v->Value.okWide C.prog W .any base t v)->
   DataW.Whole enc C.prog b.params.toList s.vars d W args.toList h k g->X W args->W.ShapedOpen C.prog->
   Calls C.prog f args W λe l=>∃v,e=ϱ v/\s.post enc C.prog b d o p m W args v l):
  ReturnsInHanded a C os f .any (λw args=>(s.pre enc C.prog b n d w args/\X w args)/\sizedMet enc C.prog b (OpenSpec.ofChange s) d w args) (s.post enc C.prog b d o p m):=by
 refine returnsInHanded_of_calls I K G L ?_;rintro w c i _ B _ ⟨_,_,_,q,r,_,_,_,_,D⟩ ⟨⟨⟨h,k,g,E,_⟩,F⟩,_⟩ _;obtain rfl:q=b:=Option.some.inj (r.symm.trans z);refine(x (w.forCall c i) w.heap.size i.args h k g D (DataW.Whole.of_heap (w':=w.forCall c i) (by rfl) E) (u _ _ _ (by rfl) F) B).mono λe l ⟨v,y,A⟩=>?_;subst y;exact ChangeSpec.post_blind A
end
def Wo{W}(k:laidMet prog [("internal/strconv.uint64pow10",Lib.tabData .u64 Lib.pow10Tab)] W)(i:W.ShapedOpen prog):Gl W:=by
 have f:prog.globalNamed "internal/strconv.uint64pow10"=some 1:=kR
 have c:=Lib.tabIs_of_head (g:=1) (t:=382) (e:=78) (n:=20) f kR underlying382 underlying78 kR kR k;let⟨cs,h,_,_⟩:=i.1 1 (List.replicate 20 (.int .u64 0)).toArray 382 (of_decide_eq_true kR) kR;let⟨a,o,w,p⟩:=i.1 4 (List.replicate 12 (.string ⟨#[]⟩)).toArray 398 (of_decide_eq_true kR) kR;let⟨x,r,_,l⟩:=p kR;have m:prog.cellTypes prog.depth 398=some (List.replicate 12 9):=kR
 obtain rfl:=Option.some.inj (m.symm.trans r);have j:a.size=12:=w;let⟨u,s,b⟩:=l 8 a[8] (by simp[j]);have v:u=9:=by simpa using s.symm
 subst v;have d:∃t,a[8]?=some (.string t):=by
  unfold Cell.ok at b;rw[underlying9]at b;cases hv:a[8]<;>rw[hv]at b<;>simp at b
  case string t=>exact⟨t,by rw[<-hv];simp[j]⟩
 let⟨t,d⟩:=d;have q:W.heap[1]?=some (ϲ (Lib.pow10Tab.map λz=>Value.int .u64 z).toArray 382 (0,0)):=by
  unfold Lib.TabIs World.var? at c;simp only[f,Option.bind_some,h]at c;rw[h,Option.some.inj c]
 exact⟨⟨_,q⟩,⟨a,_,t,o,d⟩⟩
end Gw
end Go.Proofs.YtdohpenfkdckiaaGreatDoor
