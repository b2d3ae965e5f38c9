import Derived.Test.YtdohpenfkdckiaaGreatDoorJ14
set_option linter.all false
set_option maxRecDepth 100000
set_option maxHeartbeats 20000000
namespace Go.Proofs.YtdohpenfkdckiaaGreatDoor
open Go.Proofs.Tryz
open Go.RowKit
def PRow(w:World)(T:TypeId)(v:Value)(tbs:List Nat):Prop:=∃ p c,v=.slice p tbs.length c∧(1≤tbs.length→∃ g cur,p=some ⟨g,0,none⟩∧w.heap[g]?=some (.cells cur T)∧∀ i (h:i<tbs.length),cur[i]?=some (.pointer (some ⟨tbs[i],0,none⟩)))
def qJ3(tbs:List Nat):List Value:=tbs.map fun b=>.pointer (some ⟨b,0,none⟩)
theorem PRow.of{w}{base:Nat}{T}{v}{tbs}(h:w.ownsRow base T 1 v tbs.length (qJ3 tbs)):PRow w T v tbs:=by
 rcases h.2 with⟨b,a⟩|⟨g,cap,cur,a,f,c,j,k,l,d⟩
 .exact⟨none,0,by rw[b,a],λh=>by omega⟩
 .refine⟨some ⟨g,0,none⟩,cap,a,λ_=>⟨g,cur,rfl,c,λi hi=>?_⟩⟩;have e:(qJ3 tbs)[i]?=some (ϖ (tbs[i])):=by simp[qJ3,hi]
  rw[<-d,List.getElem?_take_of_lt oM] at e;simpa using e
theorem PRow.keep0{w w'}{T}{v}{tbs}(h:PRow w T v tbs)(hK:Kp [] w w'):PRow w' T v tbs:=by
 obtain⟨p,c,e,f⟩:=h;exact⟨p,c,e,λh=>by obtain⟨g,cur,a,b,d⟩:=f h;exact⟨g,cur,a,hK.hp b,d⟩⟩
def qG5(com:Int):List (TF × Nat)→Int
 | []=>0
 | (f,l)::fs=>(if f.dn=false∧f.com<com then (l:Int)+4 else 0)+qG5 com fs
theorem xO9(c:Int):∀ a b:List (TF × Nat),qG5 c (a++b)=qG5 c a+qG5 c b
 | [],b=>by simp[qG5]
 | (f,l)::a,b=>by simp only[cA,qG5,xO9 c a b];omega
theorem zH8(b:Int):∀ a:List (TF × Nat),(∀ x∈a,x.2<=100000)->0<=qG5 b a/\qG5 b a<=100004*a.length
 | [],_=>by simp[qG5]
 | (f,l)::a,h=>by
  have e:=zH8 b a (λx d=>h x (by simp[d]));have c:=h (f,l) sM;simp only[qG5,lC];simp only at c;split<;>omega
structure TFs(w:World)(k:KF)(tbs:List Nat)(fs:List (TF × Nat)):Prop where
 row:PRow w 132 k.ts tbs
 len:fs.length=tbs.length
 at_:∀ i (h:i<tbs.length) (h':i<fs.length),w.heap[tbs[i]]?=some (tob fs[i].1)∧∃ b c,fs[i].1.v=.slice b fs[i].2 c
theorem TFs.keep0{w w'}{k:KF}{tbs}{a:List (TF × Nat)}(h:TFs w k tbs a)(hK:Kp [] w w'):TFs w' k tbs a:=
 ⟨h.row.keep0 hK,h.len,λi b c=>⟨hK.heap (h.at_ i b c).1 sM,(h.at_ i b c).2⟩⟩
theorem kN7(B:Nat)(k:KF)(tbs)(a:List (TF × Nat))(w)(m:w.heap[B]?=some (kob k))(n:TFs w k tbs a)(hn:tbs.length<=100000)(D:∀ x∈a,x.2<=100000):
  Calls prog 242 #[.pointer (some ⟨B,0,none⟩)] w λe Z=>e=.returned (.int .i64 (qG5 k.com a))/\Kp [] w Z:=by
 obtain⟨p,c,K,H⟩:=n.row;have aa:=ζ m;have R:=ξ m 9;have z:=ξ m 11;simp only[kob,zG,zH,zI] at R z;rw[K] at z;have Q:=zh n;have P:=zh H;have HL:=zh D;have N:=zh n.len;clear n H D K m;go_enter func242,ntmps242;go_wp2_with fail
 go_loopw [3,4] (λs i wr=>∃ (j:Nat),j<=tbs.length/\i=.int .i64 j/\s=.int .i64 (qG5 k.com (a.take j))/\∃ d,wr=w.drewN d) (λ_ i _=>tbs.length-(intOf i).toNat)
 case atStart=>exact⟨0,zL _,rfl,rfl,0,rfl⟩
 case round=>
  obtain⟨j,hj,rfl,rfl,d,rfl⟩:=hrel;have E:=N.out;have V:=zH8 k.com (a.take j) (λx W=>HL x (mT W));have I:(a.take j).length=j:=sO
  rw[I] at V;clear I;by_cases G:j<tbs.length
  .have U:(j:Int)<(tbs.length:Int):=oM
   have v:j<a.length:=oM
   obtain⟨g,cur,rfl,t,A⟩:=P.out oM;obtain⟨b,vb,vc,q⟩:=Q.out.at_ j G v;have o:qG5 k.com (a.take (j+1))=qG5 k.com (a.take j)+(if a[j].1.dn=false/\a[j].1.com<k.com then (a[j].2:Int)+4 else 0):=by
    rw[tA v,xO9];simp[qG5]
   have F:=HL.out a[j] (gM v);obtain⟨⟨f,l⟩,C⟩:∃ f,a[j]=f:=⟨_,rfl⟩;obtain⟨tb,J⟩:=eY (tbs[j]);have u:=A j G;rw[J] at u b;rw[C] at b q o F;simp only at b q o F;have r:=zh o;generalize S:qG5 k.com (a.take j)=M at *;have ac:=ζ t;have ab:=ζ b;have X:=ξ t j;rw[u] at X;have L:=ξ b 1;have y:=ξ b 3;have Y:=ξ b 6;simp only[tob,zG,zH,zI] at L y Y;rw[q] at L;clear A t b o C J u S q E
   cases hdn:f.dn with
   | true=>
    rw[hdn] at y;go_wp2_with fail
    go_quiet (fail)
    go_wp2;refine⟨⟨j+1,oM,by go_num,?_,_,rfl⟩,by simp[intOf];omega⟩;rw[r.out,hdn];simp
   | false=>
    rw[hdn] at y;by_cases T:f.com<k.com
    .go_wp2_with fail
     go_quiet (fail)
     go_wp2;refine⟨⟨j+1,oM,by go_num,?_,_,rfl⟩,by simp[intOf];omega⟩;rw[r.out,hdn,if_pos ⟨rfl,T⟩]
     go_num
    .go_wp2_with fail
     go_quiet (fail)
     go_wp2;refine⟨⟨j+1,oM,by go_num,?_,_,rfl⟩,by simp[intOf];omega⟩;rw[r.out,if_neg (λh=>by omega)];simp
  .have U:¬(j:Int)<(tbs.length:Int):=oM
   have O:Hid (qG5 k.com (a.take j)=qG5 k.com a):=by show _=_;rw[tL oM]
   generalize qG5 k.com (a.take j)=M at *;clear E;go_wp2;go_ret;exact⟨qJ5 O,kF.drewN _⟩
def qR8(k:KF)(cl:Nat)(most keys stale:Int):Bool:=
 decide (3*(max (max most keys) (cl:Int))+12+stale≤(k.n:Int)) && !k.wild
theorem xI4(B tb:Nat)(k:KF)(f:TF)(tbs)(q:List (TF × Nat))(j:Int)(w)(o:w.heap[B]?=some (kob k))(D:w.heap[tb]?=some (tob f))(C:TFs w k tbs q)(F:tbs.length<=100000)(E:∀ x∈q,x.2<=100000)(cb)(g I:Nat)(H:k.c=.slice cb g I)(S:g<=100000)(W:0<=f.most)(X:f.most<=100000)(T:0<=j)(U:j<=100000)(V:k.n<=100000):
  Calls prog 195 #[.pointer (some ⟨B,0,none⟩),.pointer (some ⟨tb,0,none⟩),.int .i64 j] w λe N=>e=.returned (.bool (qR8 k g f.most j (qG5 k.com q)))/\Kp [] w N:=by
 have P:=ζ o;have R:=ζ D;have M:=zH8 k.com q E;have L:=C.len;have y:=zh (kN7 B k tbs q w o C F E);have v:=zh o;have c:=ξ o 1;have G:=ξ o 5;have p:=ξ o 8;simp only[kob,zG,zH,zI] at c G p;rw[H] at p;have u:=ξ D 5;simp only[tob,zG,zH,zI] at u;clear o D C E H;generalize qG5 k.com q=ST at *;obtain⟨t,r⟩:=eY (max f.most j);obtain⟨l,s⟩:=eY (max t (g:Int));have i:Hid (qR8 k g f.most j ST=(decide (3*l+12+ST<=(k.n:Int)) && !k.wild)):=by show _=_;rw[qR8,r,s]
 have Y:0<=l/\l<=100000:=oM
 have K:=F;have Q:0<=ST/\ST<=10000500000:=oM
 clear M L F K;go_enter func195,ntmps195;by_cases O:f.most<j
 .have z:t=j:=oM
  subst z;by_cases J:t<(g:Int)
  .have n:l=(g:Int):=oM
   subst n;clear r s;go_wp2_with fail;refine (show Calls _ _ _ _ _ from y).mono ?_;rintro e w1 ⟨rfl,b⟩;have a:=b.hp v.out;have A:=ζ a;have d:=zh b;clear c G p;have c:=ξ a;simp only[kob,zG,zH,zI] at c;clear a b u;by_cases h:3*(g:Int)+12+ST<=(k.n:Int)
   .go_wp2;go_ret;exact⟨by rw[i.out,decide_eq_true h];rfl,d⟩
   .have m:=zh (decide_eq_false h);go_wp2;go_ret;exact⟨by rw[i.out,m.out];rfl,d⟩
  .have n:l=t:=oM
   subst n;clear r s;go_wp2_with fail;refine (show Calls _ _ _ _ _ from y).mono ?_;rintro e w1 ⟨rfl,b⟩;have a:=b.hp v.out;have A:=ζ a;have d:=zh b;clear c p;have c:=ξ a;simp only[kob,zG,zH,zI] at c;clear a b u;by_cases h:3*l+12+ST<=(k.n:Int)
   .go_wp2;go_ret;exact⟨by rw[i.out,decide_eq_true h];rfl,d⟩
   .have m:=zh (decide_eq_false h);go_wp2;go_ret;exact⟨by rw[i.out,m.out];rfl,d⟩
 .have z:t=f.most:=oM
  subst z;by_cases J:f.most<(g:Int)
  .have n:l=(g:Int):=oM
   subst n;clear r s;go_wp2_with fail;refine (show Calls _ _ _ _ _ from y).mono ?_;rintro e w1 ⟨rfl,b⟩;have a:=b.hp v.out;have A:=ζ a;have d:=zh b;clear c p;have c:=ξ a;simp only[kob,zG,zH,zI] at c;clear a b u;by_cases h:3*(g:Int)+12+ST<=(k.n:Int)
   .go_wp2;go_ret;exact⟨by rw[i.out,decide_eq_true h];rfl,d⟩
   .have m:=zh (decide_eq_false h);go_wp2;go_ret;exact⟨by rw[i.out,m.out];rfl,d⟩
  .have n:l=f.most:=oM
   subst n;clear r s;go_wp2_with fail;refine (show Calls _ _ _ _ _ from y).mono ?_;rintro e w1 ⟨rfl,b⟩;have a:=b.hp v.out;have A:=ζ a;have d:=zh b;clear c p;have c:=ξ a;simp only[kob,zG,zH,zI] at c;clear a b u;by_cases h:3*f.most+12+ST<=(k.n:Int)
   .go_wp2;go_ret;exact⟨by rw[i.out,decide_eq_true h];rfl,d⟩
   .have m:=zh (decide_eq_false h);go_wp2;go_ret;exact⟨by rw[i.out,m.out];rfl,d⟩
def zG8:List TypeId:=[169,99,80,114,115,117]
def ProgS(w:World)(S:List Nat):Prop:=∀ k∈S,0<k∧∀ c t fr,w.heap[k]?=some (.cells c t fr)→t∈zG8
theorem ProgS.stay{w w'}{S}(h:ProgS w S)(hK:Kp S w w'){k:Nat}{c}{t}{fr}(a:w.heap[k]?=some (.cells c t fr))(d:t ∉ zG8):w'.heap[k]?=some (.cells c t fr):=
 hK.heap a λb=>d ((h k b).2 _ _ _ a)
theorem ProgS.g0{w w'}{S}(h:ProgS w S)(hK:Kp S w w')(b:w.cell? ⟨0,0,none⟩=some qE9)(d:0<w.heap.size):w'.cell? ⟨0,0,none⟩=some qE9:=
 (hK.cell (a:=⟨0,0,none⟩) (by simpa using d) (λc=>by have:=(h _ c).1;simp at this)).trans b
theorem ProgS.prow{w w'}{S}(h:ProgS w S)(hK:Kp S w w'){T}(i:T ∉ zG8){v}{tbs}(k:PRow w T v tbs):PRow w' T v tbs:=by
 obtain⟨p,c,e,f⟩:=k;exact⟨p,c,e,λj=>by obtain⟨g,cur,a,b,d⟩:=f j;exact⟨g,cur,a,h.stay hK b i,d⟩⟩
theorem ProgS.tfs{w w'}{S}(h:ProgS w S)(hK:Kp S w w'){k:KF}{tbs}{b:List (TF × Nat)}(a:TFs w k tbs b):TFs w' k tbs b:=
 ⟨h.prow hK dC a.row,a.len,λi c d=>⟨h.stay hK (a.at_ i c d).1 dC,(a.at_ i c d).2⟩⟩
theorem ProgS.apt{w}{S}(h:ProgS w S){Ts:List TypeId}(a:∀ t∈Ts,t ∉ zG8):Apt w S Ts:=λk hk c t fr e hm=>a t hm ((h k hk).2 _ _ _ e)
theorem SPR.slc{w}{v}{ps}(h:SPR w v ps):∃ b n c,v=.slice b n c:=by
 obtain⟨b,c,e⟩:=h.form;exact⟨b,_,c,e⟩
structure ChIn(w:World)(B tb A n C:Nat)(cache:Value)(calls writes:Int)(k:KF)(f:TF)(tbs:List Nat)(fs:List (TF × Nat))(ps:List KV):Prop where
 hB:w.heap[B]?=some (kob k)
 po:k.po=false
 kA:k.A=A
 hA:w.heap[A]?=some (qG6 n C cache calls writes)
 hT:w.heap[tb]?=some (tob f)
 sp:SPR w f.v ps
 sz:ps.length≤50000
 g0:w.cell? ⟨0,0,none⟩=some qE9
 m0:0≤f.most
 m1:f.most≤100000
 c0:0≤f.chg
 c1:f.chg≤100000000
 s0:0≤f.stp
 s1:f.stp≤100000000
theorem jC0(B tb A n C:Nat)(cache)(x X:Int)(k:KF)(f:TF)(tbs)(fs:List (TF × Nat))(ps)(key val)(j:Int)(r:Option Int)(ac:r=some j)(S)(R:World->Prop)(w)(b:ChIn w B tb A n C cache x X k f tbs fs ps)(E:ProgS w S)(K:qH7 f.wr f.dn key val=j)(ab:j≠0)(I:Calls prog 34 #[.pointer (some ⟨f.x,0,none⟩),.string key,.string val] w λe i=>∃ v,e=.returned v/\ErrV i v r/\R i/\Kp S w i):
  Calls prog 132 #[.pointer (some ⟨B,0,none⟩),.pointer (some ⟨tb,0,none⟩),.string key,.string val,.bool false] w λe i=>e=.returned (.bool true)/\∃ w1,R w1/\Kp S w w1/\Kp [] w1 i:=by
 have ah:=ζ b.hB;have ak:=ζ b.hT;have ae:=ζ b.hA;have c:=zh b;have l:=zh E;have y:=b.hB;have G:=b.hT;have L:=b.kA;have Y:=zh I;have m:=ξ y 0;simp only[kob,zG,zH,zI] at m;have O:=ξ G 0;simp only[tob,zG,zH,zI] at O;rw[L] at m;clear b E y G L I;go_enter func132,ntmps132;go_wp2_with fail;refine (qK6 A n C cache x X w c.hA).mono ?_;rintro e w0 ⟨rfl,rfl⟩;go_wp2_with fail;refine (show Calls _ _ _ _ _ from Y).mono ?_;rintro e w1 ⟨v,rfl,N,F,d⟩;have z:=l.out.stay d c.hB dC;have H:=l.out.stay d c.hT dC;have M:=c.out.sp.keep d (l.apt dC);have J:=l.out.g0 d c.g0 oM;have t:=zh (n2 F d);clear m O F;go_wp2_with fail;refine (qJ7 v r w1 J N).mono ?_;rintro e w2 ⟨rfl,g⟩;have o:=g.hp z;have a:=g.hp H;have p:=M.keep0 g;have ai:=ζ a;have af:=ζ o;have s:=ξ a 1;have P:=ξ a 2;have Q:=ξ a 3;have T:=ξ a 4;have U:=ξ a 5;have V:=ξ a 6;have W:=ξ a 7;simp only[tob,zG,zH,zI] at s P Q T U V W;obtain⟨vb,vl,vc,q⟩:=p.slc;rw[q] at s;have ad:=zh q;clear q
 go_wp2_with (go_at_call 127;refine (qH6 _ _).mono ?_;rintro e w2 ⟨rfl,rfl⟩)
 refine (zA9 (.slice vb vl vc) f.cs f.wr f.dn f.chg f.most f.com f.stp key val _ ⟨_,_,_,rfl⟩).mono ?_;rintro e w3 ⟨rfl,h⟩;have D:=h.hp o;have aa:=h.hp a;have am:=p.keep0 h;have ag:=ζ D;have aj:=ζ aa;have u:=ξ D 10;simp only[kob,zG,zH,zI] at u;rw[c.out.po] at u;have Z:=zh (g.tr h);clear s P Q T U V W z H M J d g h o a p N;rw[K];have al:¬(j=0):=ab;clear K ac;go_wp2;go_ret;exact⟨sM,w1,t.1,t.2,Z⟩
theorem jB8(B tb A n C:Nat)(cache)(x X:Int)(k:KF)(f:TF)(tbs)(fs:List (TF × Nat))(ps)(key val)(j:Int)(r:Option Int)(ac:r=some j)(S)(R:World->Prop)(w)(b:ChIn w B tb A n C cache x X k f tbs fs ps)(E:ProgS w S)(K:qH7 f.wr f.dn key ⟨#[]⟩=j)(ab:j≠0)(I:Calls prog 28 #[.pointer (some ⟨f.x,0,none⟩),.string key] w λe i=>∃ v,e=.returned v/\ErrV i v r/\R i/\Kp S w i):
  Calls prog 132 #[.pointer (some ⟨B,0,none⟩),.pointer (some ⟨tb,0,none⟩),.string key,.string val,.bool true] w λe i=>e=.returned (.bool true)/\∃ w1,R w1/\Kp S w w1/\Kp [] w1 i:=by
 have ah:=ζ b.hB;have ak:=ζ b.hT;have ae:=ζ b.hA;have c:=zh b;have l:=zh E;have y:=b.hB;have G:=b.hT;have L:=b.kA;have Y:=zh I;have m:=ξ y 0;simp only[kob,zG,zH,zI] at m;have O:=ξ G 0;simp only[tob,zG,zH,zI] at O;rw[L] at m;clear b E y G L I;go_enter func132,ntmps132;go_wp2_with fail;refine (qK6 A n C cache x X w c.hA).mono ?_;rintro e w0 ⟨rfl,rfl⟩;go_wp2_with fail;refine (show Calls _ _ _ _ _ from Y).mono ?_;rintro e w1 ⟨v,rfl,N,F,d⟩;have z:=l.out.stay d c.hB dC;have H:=l.out.stay d c.hT dC;have M:=c.out.sp.keep d (l.apt dC);have J:=l.out.g0 d c.g0 oM;have t:=zh (n2 F d);clear m O F;go_wp2_with fail;refine (qJ7 v r w1 J N).mono ?_;rintro e w2 ⟨rfl,g⟩;have o:=g.hp z;have a:=g.hp H;have p:=M.keep0 g;have ai:=ζ a;have af:=ζ o;have s:=ξ a 1;have P:=ξ a 2;have Q:=ξ a 3;have T:=ξ a 4;have U:=ξ a 5;have V:=ξ a 6;have W:=ξ a 7;simp only[tob,zG,zH,zI] at s P Q T U V W;obtain⟨vb,vl,vc,q⟩:=p.slc;rw[q] at s;have ad:=zh q;clear q
 go_wp2_with (go_at_call 127;refine (qH6 _ _).mono ?_;rintro e w2 ⟨rfl,rfl⟩)
 refine (zA9 (.slice vb vl vc) f.cs f.wr f.dn f.chg f.most f.com f.stp key ⟨#[]⟩ _ ⟨_,_,_,rfl⟩).mono ?_;rintro e w3 ⟨rfl,h⟩;have D:=h.hp o;have aa:=h.hp a;have am:=p.keep0 h;have ag:=ζ D;have aj:=ζ aa;have u:=ξ D 10;simp only[kob,zG,zH,zI] at u;rw[c.out.po] at u;have Z:=zh (g.tr h);clear s P Q T U V W z H M J d g h o a p N;rw[K];have al:¬(j=0):=ab;clear K ac;go_wp2;go_ret;exact⟨sM,w1,t.1,t.2,Z⟩
def TF.step(f:TF)(v:Value)(m:Nat):TF:={ f with v:=v,chg:=f.chg+1,most:=if f.most<m then (m:Int) else f.most,stp:=f.stp+1 }
def zJ2(f:TF)(tb:Nat)(R:World→Prop)(S:List Nat)(qs:List KV)(w w':World):Prop:=∃ w1 v',R w1∧Kp S w w1∧Kp [tb] w1 w'∧w'.heap[tb]?=some (tob (f.step v' qs.length))∧SPR w' v' qs
theorem jC1(B tb A n C:Nat)(cache)(ab au:Int)(k:KF)(f:TF)(tbs)(fs:List (TF × Nat))(ps)(key val)(T:Option Int)(ay:T=none)(S)(R:World->Prop)(w)(j:ChIn w B tb A n C cache ab au k f tbs fs ps)(hP:ProgS w S)(hj:qH7 f.wr f.dn key val=0)(ag:Calls prog 34 #[.pointer (some ⟨f.x,0,none⟩),.string key,.string val] w λe t=>∃ v,e=.returned v/\ErrV t v T/\R t/\Kp S w t):
  Calls prog 132 #[.pointer (some ⟨B,0,none⟩),.pointer (some ⟨tb,0,none⟩),.string key,.string val,.bool false] w λe t=>e=.returned (.bool true)/\zJ2 f tb R S (ins ⟨key,val⟩ ps) w t:=by
 have a4:=ζ j.hB;have ba:=ζ j.hT;have a1:=ζ j.hA;have g:=zh j;have u:=zh hP;have hB:=j.hB;have hT:=j.hT;have ai:=j.kA;have av:=zh ag;have H:=ξ hB 0;simp only[kob,zG,zH,zI] at H;have t0:=ξ hT 0;simp only[tob,zG,zH,zI] at t0;rw[ai] at H;clear j hP hB hT ai ag;go_enter func132,ntmps132;go_wp2_with fail;refine (qK6 A n C cache ab au w g.hA).mono ?_;rintro e w0 ⟨rfl,rfl⟩;go_wp2_with fail;refine (show Calls _ _ _ _ _ from av).mono ?_;rintro e w1 ⟨v,rfl,hv,hR,m⟩;have ac:=u.out.stay m g.hB dC;have af:=u.out.stay m g.hT dC;have ak:=g.out.sp.keep m (u.apt dC);have ah:=u.out.g0 m g.g0 oM;have x:=zh (n2 hR m);clear H t0 hR;go_wp2_with fail;refine (qJ7 v T w1 ah hv).mono ?_;rintro e w2 ⟨rfl,p⟩;have I:=p.hp ac;have h:=p.hp af;have N:=ak.keep0 p;have a6:=ζ h;have a2:=ζ I;have i:=ξ h 1;have t2:=ξ h 2;have t3:=ξ h 3;have E:=ξ h 4;have t5:=ξ h 5;have t6:=ξ h 6;have t7:=ξ h 7;simp only[tob,zG,zH,zI] at i t2 t3 E t5 t6 t7;obtain⟨U,W,V,Q⟩:=N.slc;rw[Q] at i;have Z:=zh Q;clear Q
 go_wp2_with (go_at_call 127;refine (qH6 _ _).mono ?_;rintro e w2 ⟨rfl,rfl⟩)
 refine (zA9 (.slice U W V) f.cs f.wr f.dn f.chg f.most f.com f.stp key val _ ⟨_,_,_,rfl⟩).mono ?_;rintro e w3 ⟨rfl,q⟩;have z:=q.hp I;have D:=q.hp h;have al:=N.keep0 q;have a3:=ζ z;have a7:=ζ D;have aa:=ξ z 10;simp only[kob,zG,zH,zI] at aa;rw[g.out.po] at aa;have X:=zh (p.tr q);clear i t2 t3 E t5 t6 t7 ac af ak ah m p q I h N hv;rw[hj];clear hj ay;have i:=ξ D 1;simp only[tob,zG,zH,zI] at i;rw[Z.out] at i;have O:SPR w3 (.slice U W V) ps:=by rw[<-Z.out];exact al
 have ax:=zh D;have aw:=zh g.sz;have a0:=zh O;have az:=zh z;clear D z al;go_wp2_with fail;refine (zS5 (.slice U W V) ps ⟨key,val⟩ _ O (by have:=aw.out;omega)).mono ?_;rintro e F ⟨v4,rfl,P,J⟩;have o:=J.hp ax.out;have a8:=ζ o;obtain⟨c,d,ao⟩:=P.form;obtain⟨a,M⟩:∃ a:Nat,(ins ⟨key,val⟩ ps).length=a:=⟨_,rfl⟩;rw[M] at ao;subst ao;have Y:=zh (n3 P M J);clear P M J i O;have i:=ξ o 1;simp only[tob,zG,zH,zI] at i;have f1:=φ o 1;go_wp2_with fail;obtain⟨an,aj,ae⟩:=Y.out;obtain⟨b,aq,s,L,K⟩:∃ b,b=(F.setCell ⟨tb,1,none⟩ (.slice c a d)).alloc (.cells #[.slice c a d] 126)/\b.heap[tb]?=some (tob { f with v:=.slice c a d })/\b.heap[F.heap.size]?=some (.cells #[.slice c a d] 126)/\Kp [tb] F b:=
  ⟨_,rfl,ν _ (μ o 1 _),by have e:=υ (F.setCell ⟨tb,1,none⟩ (.slice c a d)) (.cells #[.slice c a d] 126);simpa using e,(kF.sc _).alloc _⟩
 rw[<-aq];have ad:Kp [tb] w3 b:=(ae.mono sM).tr K;have am:=an.keep K (Apt.one o dC);clear aq i f1 o K an ae Y;have y:=zh s;have l:=zh (n3 ad am aj);have a9:=ζ s;have a5:=ζ L;have E:=ξ s;simp only[tob,zG,zH,zI] at E;have f4:=φ s;have n0:=ξ L 0;simp only[tob,zG,zH,zI] at n0;clear s ad L am aj;have ap:wrap64 (f.chg+1)=f.chg+1:=by have h0:=g.out.c0;have h1:=g.out.c1;simp only[wrap64];omega
 have ar:wrap64 (f.stp+1)=f.stp+1:=by have h0:=g.out.s0;have h1:=g.out.s1;simp only[wrap64];omega
 by_cases hq:f.most<(a:Int)
 .have G:Hid (f.step (.slice c a d) (ins ⟨key,val⟩ ps).length={ f with v:=.slice c a d,most:=((a:Nat):Int),chg:=f.chg+1,stp:=f.stp+1 }):=by show _=_;rw[l.out.2.2,TF.step,if_pos hq]
  go_quiet (fail)
  go_wp2
  try rw[ap,ar]
  go_ret;have r:Kp [tb] b ((((b.drewN nq).setCell ⟨tb,5,none⟩ (ϊ a)).setCell ⟨tb,4,none⟩ (ϊ (f.chg+1))).setCell ⟨tb,7,none⟩ (ϊ (f.stp+1))):=((((Kp.refl _ b).drewN nq).sc _).sc _).sc _;refine⟨rfl,w1,.slice c a d,x.1,x.2,((X.mono sM).tr l.1).tr r,?_,l.2.1.keep r (Apt.one y dC)⟩;rw[G.out];exact μ (μ (μ (show (b.drewN nq).heap[tb]?=_ from y) 5 _) 4 _) 7 _
 .have G:Hid (f.step (.slice c a d) (ins ⟨key,val⟩ ps).length={ f with v:=.slice c a d,chg:=f.chg+1,stp:=f.stp+1 }):=by show _=_;rw[l.out.2.2,TF.step,if_neg hq]
  go_quiet (fail)
  go_wp2
  try rw[ap,ar]
  go_ret;have r:Kp [tb] b (((b.drewN nq).setCell ⟨tb,4,none⟩ (ϊ (f.chg+1))).setCell ⟨tb,7,none⟩ (ϊ (f.stp+1))):=(((Kp.refl _ b).drewN nq).sc _).sc _;refine⟨rfl,w1,.slice c a d,x.1,x.2,((X.mono sM).tr l.1).tr r,?_,l.2.1.keep r (Apt.one y dC)⟩;rw[G.out];exact μ (μ (show (b.drewN nq).heap[tb]?=_ from y) 4 _) 7 _
theorem jB9(B tb A n C:Nat)(cache)(ap bd:Int)(k:KF)(f:TF)(tbs)(fs:List (TF × Nat))(ps)(key val)(ko:Option Int)(bh:ko=none)(S)(R:World->Prop)(w)(m:ChIn w B tb A n C cache ap bd k f tbs fs ps)(hP:ProgS w S)(hj:qH7 f.wr f.dn key ⟨#[]⟩=0)(az:Calls prog 28 #[.pointer (some ⟨f.x,0,none⟩),.string key] w λe z=>∃ v,e=.returned v/\ErrV z v ko/\R z/\Kp S w z):
  Calls prog 132 #[.pointer (some ⟨B,0,none⟩),.pointer (some ⟨tb,0,none⟩),.string key,.string val,.bool true] w λe z=>e=.returned (.bool true)/\zJ2 f tb R S (del key ps) w z:=by
 have bn:=ζ m.hB;have bv:=ζ m.hT;have bk:=ζ m.hA;have d:=zh m;have E:=zh hP;have hB:=m.hB;have hT:=m.hT;have a1:=m.kA;have bf:=zh az;have X:=ξ hB 0;simp only[kob,zG,zH,zI] at X;have t0:=ξ hT 0;simp only[tob,zG,zH,zI] at t0;rw[a1] at X;clear m hP hB hT a1 az;go_enter func132,ntmps132;go_wp2_with fail;refine (qK6 A n C cache ap bd w d.hA).mono ?_;rintro e w0 ⟨rfl,rfl⟩;go_wp2_with fail;refine (show Calls _ _ _ _ _ from bf).mono ?_;rintro e w1 ⟨v,rfl,hv,hR,q⟩;have ar:=E.out.stay q d.hB dC;have ax:=E.out.stay q d.hT dC;have a2:=d.out.sp.keep q (E.apt dC);have a0:=E.out.g0 q d.g0 oM;have F:=zh (n2 hR q);clear X t0 hR;go_wp2_with fail;refine (qJ7 v ko w1 a0 hv).mono ?_;rintro e w2 ⟨rfl,s⟩;have Y:=s.hp ar;have j:=s.hp ax;have ae:=a2.keep0 s;have bq:=ζ j;have bl:=ζ Y;have b:=ξ j 1;have t2:=ξ j 2;have t3:=ξ j 3;have M:=ξ j 4;have t5:=ξ j 5;have t6:=ξ j 6;have t7:=ξ j 7;simp only[tob,zG,zH,zI] at b t2 t3 M t5 t6 t7;obtain⟨N,P,O,ai⟩:=ae.slc;rw[ai] at b;have W:=zh ai;clear ai
 go_wp2_with (go_at_call 127;refine (qH6 _ _).mono ?_;rintro e w2 ⟨rfl,rfl⟩)
 refine (zA9 (.slice N P O) f.cs f.wr f.dn f.chg f.most f.com f.stp key ⟨#[]⟩ _ ⟨_,_,_,rfl⟩).mono ?_;rintro e w3 ⟨rfl,t⟩;have H:=t.hp Y;have J:=t.hp j;have a3:=ae.keep0 t;have bm:=ζ H;have br:=ζ J;have ao:=ξ H 10;simp only[kob,zG,zH,zI] at ao;rw[d.out.po] at ao;have ak:=zh (s.tr t);clear b t2 t3 M t5 t6 t7 ar ax a2 a0 q s t Y j ae hv;rw[hj];clear hj bh;have b:=ξ J 1;simp only[tob,zG,zH,zI] at b;rw[W.out] at b;have af:SPR w3 (.slice N P O) ps:=by rw[<-W.out];exact a3
 have bg:=zh J;have an:=zh d.sz;have am:=zh af;have bj:=zh H;clear J H a3;go_wp2_with fail;refine (zS5 (.slice N P O) ps ⟨key,⟨#[]⟩⟩ _ af (by have:=an.out;omega)).mono ?_;rintro e o ⟨v4,rfl,ag,Z⟩;have l:=Z.hp bg.out;have bs:=ζ l;obtain⟨b4,c4,a7⟩:=ag.form;obtain⟨K,ad⟩:∃ K:Nat,(ins ⟨key,⟨#[]⟩⟩ ps).length=K:=⟨_,rfl⟩;rw[ad] at a7;subst a7;have T:=zh (n3 ag ad Z);clear ag ad Z b af;have b:=ξ l 1;simp only[tob,zG,zH,zI] at b;rw[W.out] at b;go_wp2_with fail;have bi:=am.out;obtain⟨D,ba,ay,aw,aa⟩:∃ D,D=o.alloc (.cells #[.slice b4 K c4] 126)/\Ϙ D tb (tob f)/\Ϙ D o.heap.size (.cells #[.slice b4 K c4] 126)/\Kp [] w3 D:=
  ⟨_,rfl,ν _ l,υ _ _,T.2.2.alloc _⟩
 rw[<-ba];have a4:=am.out.keep0 aa;have aq:=T.out.2.2.size;clear ba b l;refine (kL4 (.slice N P O) ps key _ a4 (by have:=an.out;omega)).mono ?_;rintro e w6 ⟨v6,rfl,ah,I⟩;have l:=I.hp ay;have x:=I.hp aw;have bu:=ζ l;have bp:=ζ x;obtain⟨g,h,a8⟩:=ah.form;obtain⟨a,r⟩:∃ a:Nat,(del key ps).length=a:=⟨_,rfl⟩;rw[r] at a8;subst a8;have al:Hid (o.heap.size≠tb):=by show o.heap.size≠tb;omega
 have be:=zh aq;have aj:=zh (n3 ah r (aa.tr I));have Q:=zh x;have V:=zh l;have b:=ξ l 1;simp only[tob,zG,zH,zI] at b;have f1:=φ l 1;have L:=ξ x 0;simp only[tob,zG,zH,zI] at L;have g0:=φ x 0;clear ah r I ay aw aa a4 l x T bi aq;go_wp2_with fail;obtain⟨c,bb,y,ac,ab⟩:∃ c,c=(w6.setCell ⟨o.heap.size,0,none⟩ (.slice g a h)).setCell ⟨tb,1,none⟩ (.slice g a h)/\Ϙ c tb (tob { f with v:=.slice g a h })/\Ϙ c o.heap.size (.cells #[.slice g a h] 126)/\Kp [tb,o.heap.size] w6 c:=
  ⟨_,rfl,μ ((qB1 (by have:=al.out;omega) _ _).trans V) 1 _,(qB1 (by have:=al.out;omega) _ _).trans (μ Q 0 _),(kF.sc _).sc _⟩
 rw[<-bb];obtain⟨a6,r,av⟩:=aj.out;have au:Kp [tb] w3 c:=(av.mono sM).trans ab (by intro i hi bw;have:=be.out;simp at hi |-;omega);have a5:=a6.keep ab ((Apt.one V dC).cons (Apt.one Q dC));clear bb b f1 L g0 ab a6 av aj Q V;have G:=zh y;have p:=zh (n3 au a5 r);have bt:=ζ y;have bo:=ζ ac;have M:=ξ y;simp only[tob,zG,zH,zI] at M;have f4:=φ y;have L:=ξ ac 0;simp only[tob,zG,zH,zI] at L;clear y au ac a5 r;have a9:wrap64 (f.chg+1)=f.chg+1:=by have h0:=d.out.c0;have h1:=d.out.c1;simp only[wrap64];omega
 have bc:wrap64 (f.stp+1)=f.stp+1:=by have h0:=d.out.s0;have h1:=d.out.s1;simp only[wrap64];omega
 by_cases hq:f.most<(a:Int)
 .have U:Hid (f.step (.slice g a h) (del key ps).length={ f with v:=.slice g a h,most:=((a:Nat):Int),chg:=f.chg+1,stp:=f.stp+1 }):=by show _=_;rw[p.out.2.2,TF.step,if_pos hq]
  go_quiet (fail)
  go_wp2
  try rw[a9,bc]
  go_ret;have u:Kp [tb] c ((((c.drewN nq).setCell ⟨tb,5,none⟩ (ϊ a)).setCell ⟨tb,4,none⟩ (ϊ (f.chg+1))).setCell ⟨tb,7,none⟩ (ϊ (f.stp+1))):=((((Kp.refl _ c).drewN nq).sc _).sc _).sc _;refine⟨rfl,w1,.slice g a h,F.1,F.2,((ak.mono sM).tr p.1).tr u,?_,p.2.1.keep u (Apt.one G dC)⟩;rw[U.out];exact μ (μ (μ (show (c.drewN nq).heap[tb]?=_ from G) 5 _) 4 _) 7 _
 .have U:Hid (f.step (.slice g a h) (del key ps).length={ f with v:=.slice g a h,chg:=f.chg+1,stp:=f.stp+1 }):=by show _=_;rw[p.out.2.2,TF.step,if_neg hq]
  go_quiet (fail)
  go_wp2
  try rw[a9,bc]
  go_ret;have u:Kp [tb] c (((c.drewN nq).setCell ⟨tb,4,none⟩ (ϊ (f.chg+1))).setCell ⟨tb,7,none⟩ (ϊ (f.stp+1))):=(((Kp.refl _ c).drewN nq).sc _).sc _;refine⟨rfl,w1,.slice g a h,F.1,F.2,((ak.mono sM).tr p.1).tr u,?_,p.2.1.keep u (Apt.one G dC)⟩;rw[U.out];exact μ (μ (show (c.drewN nq).heap[tb]?=_ from G) 4 _) 7 _
end Go.Proofs.YtdohpenfkdckiaaGreatDoor
