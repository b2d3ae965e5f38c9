import Derived.Test.YtdohpenfkdckiaaGreatDoorJ17
import Derived.RangeFuncGives
import Derived.Sort.MapsRangeIn
set_option linter.all false
set_option maxRecDepth 100000
set_option maxHeartbeats 20000000
namespace Go.Proofs.YtdohpenfkdckiaaGreatDoor
open Go.Proofs.Tryz
open Go.RowKit
theorem jS0:(prog.info? 66).map (λi=>(i.zero,i.size,i.bytes))=some (some (.agg #[.int .i64 0,.int .i64 0,.int .i64 0,.int .i64 0,.int .i64 0,.string ⟨#[]⟩,.string ⟨#[]⟩]),7,72):=kR
theorem kK5(w)(base g:Nat)(v)(n:Nat)(xs:List Value)(a:List Value)(d:a.length=7)(ty)
  (h:w.ownsRow base 66 7 v n xs) (t:n<=1000000) (f:w.heap[g]?=some (.cells a.toArray 66)) (l:∀ u∈a,u.oneCell'=true) (e:base<=w.heap.size):
  ∃ c b,Sem.run prog (Builtin.append_ #[22,22] ty #[v,.slice (some ⟨g,0,none⟩) 1 1]) w=.ok c b/\b.ownsRow base 66 7 c (n+1) (xs++a)/\w.grownBy b v.ownBlock:=by
 obtain⟨q,i,m,o,p⟩:=info_parts jS0;obtain⟨c,b,k,r,s,x⟩:=run_append_own (P:=prog) w base 22 ty 66 q _ 7 72 underlying22 i m o p rfl dC v n _ h ⟨g,0,none⟩ 1 1 a (by simp[d]) (λj v hv=>by
  rw[qG4,ξ f];simpa using hv) l (by unfold maxLen;omega) oM e
 exact⟨c,b,k,r,s⟩
theorem kM1{w}{base:Nat}{p}{c:Nat}{a:List SOp}(h:w.ownsRow base 66 7 (.slice p a.length c) a.length (a.flatMap SOp.cells)):Script w p a.length (λi=>a.getD i ⟨0,0,0,0,0,⟨#[]⟩,⟨#[]⟩⟩):=by
 intro x;rcases h.2 with⟨_,q⟩|⟨g,cap,cur,j,r,d,s,t,u,k⟩
 .omega
 .cases j;refine⟨g,0,rfl,ζ d,λi b c v=>?_⟩;rw[ξ d];have m:∀ (l:List SOp) (i:Nat) (b:i<l.length),(l.flatMap SOp.cells)[i*7+c]?=(l[i]).cells[c]?:=by
   intro l
   induction l with
   | nil=>intro i b;simp at b
   | cons o l ih=>
    intro i b;rw[fC];have n:o.cells.length=7:=rfl
    cases i with
    | zero=>rw[List.getElem?_append_left oM];simp
    | succ i=>rw[List.getElem?_append_right oM,show (i+1)*7+c-o.cells.length=i*7+c by omega,ih i (by simpa using b)];simp
  have e:=m a i b;rw[<-k,List.getElem?_take_of_lt oM] at e;have f:a.getD i ⟨0,0,0,0,0,⟨#[]⟩,⟨#[]⟩⟩=a[i]:=by simp[List.getD,b]
  show _=(a.getD i _).cells[c]?;rw[f,<-e];simp
end Go.Proofs.YtdohpenfkdckiaaGreatDoor
namespace Go.Proofs.YtdohpenfkdckiaaGreatDoor.Gw
open Go.Proofs.Tryz
open Go.RowKit
def I64(x:Int):Prop:=-9223372036854775808≤x∧x≤9223372036854775807
structure SFits(o:SOp):Prop where
 x:I64 o.x
 y:I64 o.y
 a:I64 o.a
 b:I64 o.b
structure Fit(ks:List Int)(o:SOp):Prop where
 k:o.k<4∨o.k∈ks
 f:SFits o
theorem kI0(ks:List Int)(n3:Nat)(ay:n3<=20)(ae:ks.length=n3)(Q:∀ (p) (n cap:Nat) (f:Nat->SOp) (w),n<=16384->0<w.heap.size->w.cell? ⟨0,0,none⟩=some qE9->Script w p n f->(∀ i,i<n->Fit ks (f i))->Calls prog 17 #[.slice p n cap] w λe P=>e=.returned (.int .i64 (-1))/\Kp [] w P)
  (p) (n cap:Nat) (f:Nat->SOp) (w) (K:Script w p n f) (Y:∀ i,i<n->SFits (f i)) (X:0<w.heap.size) (hg:w.cell? ⟨0,0,none⟩=some qE9) (I:Nat) (z:w.heap[I]?=some (.cells (ks.map (.int .i64)).toArray 3)):
  Calls prog 15 #[.slice p n cap,.slice (some ⟨I,0,none⟩) n3 n3] w λe P=>e=.returned (.bool true)/\Kp [] w P:=by
 have HU:=zh Q;have HS:=zh K;have HF:=zh Y;have G:Hid (0<w.heap.size/\w.cell? ⟨0,0,none⟩=some qE9/\Ϙ w I (.cells (ks.map (.int .i64)).toArray 3)):=⟨X,hg,z⟩;have au:=ζ z;have ah:=zh ae;clear Q Y X hg ae;go_enter func15,ntmps15;go_wp2_with fail;refine (kM9 p n cap f w K).mono ?_;rintro e w1 ⟨r,rfl,hr,m,rfl⟩
 cases r with
 | false=>
  go_wp2;go_ret;exact⟨rfl,(Kp.refl _ _).drewN _⟩
 | true=>
  have hn:=hr rfl;clear hr K z;go_wp2
  go_loopw [6,7] (λl i wr=>∃ (j:Nat) (d:List SOp) (q:Option Addr) (c:Nat),j<=n/\i=.int .i64 j/\l=.slice q d.length c/\d.length<=j/\(∀ o,o∈d->Fit ks o)/\wr.ownsRow w.heap.size 66 7 (.slice q d.length c) d.length (d.flatMap SOp.cells)/\Kp [] w wr) (λ_ i _=>n-(intOf i).toNat)
  case atStart=>exact⟨0,[],none,0,Nat.zero_le _,rfl,rfl,Nat.zero_le _,sM,World.ownsRow_nil _ _ _ _,(Kp.refl _ _).drewN _⟩
  case round=>
   obtain⟨j,d,q,H,hj,rfl,rfl,ax,D,F,hK⟩:=hrel;by_cases v:j<n
   .obtain⟨ap,a0,rfl,aq,u⟩:=(HS.keep hK) oM;have Z:=HF.out j v;have z:=hK.hp G.2.2;have av:=ζ z;generalize N:f j=o at *;have c0:=u j v 0 dC;have R:=u j v 1 dC;have S:=u j v 2 dC;have T:=u j v 3 dC;have U:=u j v 4 dC;have C:=u j v 5 dC;have V:=u j v 6 dC;rw[N] at c0 R S T U C V;obtain⟨k,x,y,a,b,s,t⟩:=o;simp only[SOp.cells,zH,zI,Nat.add_zero] at c0 R S T U C V;have am:(j:Int)<(n:Int):=oM
    have HO:=zh N;have A:Hid (wr.ownsRow w.heap.size 66 7 (.slice q d.length H) d.length (d.flatMap SOp.cells)/\Kp [] w wr/\(∀ o,o∈d->Fit ks o)):=⟨F,hK,D⟩;have HJ:=zh Z;have HQ:Hid (∀ i,i<n3->∃ J,wr.cell? ⟨I,i,none⟩=some (ϊ J)/\J∈ks):=by
     intro i L;rw[ξ z];have ab:i<ks.length:=by have:=ah.out;omega
     exact⟨ks[i],by simp[ab],List.getElem_mem ab⟩
    clear u F hK D Z N z;go_wp2
    go_loop [9,10] (λq i=>∃ (g:Nat) (B:Bool),g<=n3/\i=.int .i64 g/\q=.bool B/\Hid (B=true->k<4\/k∈ks)) (λ_ i=>n3-(intOf i).toNat)
    case atStart=>exact⟨0,_,Nat.zero_le _,rfl,rfl,λh=>Or.inl (by simpa using h)⟩
    case round=>
     obtain⟨g,B,ar,rfl,rfl,M⟩:=hrel;by_cases an:g<n3
     .obtain⟨J,aw,ad⟩:=HQ.out g an;have al:(g:Int)<(n3:Int):=oM
      have ag:=zh ad;clear ad
      cases B with
      | true=>
       go_wp2;exact⟨⟨g+1,true,oM,by go_num,rfl,M⟩,by simp[intOf];omega⟩
      | false=>
       go_wp2;exact⟨⟨g+1,decide (k=J),oM,by go_num,rfl,λh=>by have h:=of_decide_eq_true h;subst h;exact Or.inr ag⟩,by simp[intOf];omega⟩
     .have al:¬(g:Int)<(n3:Int):=oM
      cases B with
      | false=>
       go_wp2;obtain⟨F,hK,D⟩:=A.out;exact⟨⟨j+1,d,q,H,oM,by go_num,rfl,oM,D,F,hK⟩,by simp[intOf];omega⟩
      | true=>
       have ac:=M.out rfl;have af:=zh ac;clear ac M;have az:=A.out.2.1.size;obtain⟨v5,w5,ao,O,aa⟩:=kK5 (wr.alloc (.cells #[ϊ k,ϊ x,ϊ y,ϊ a,ϊ b,.string s,.string t] 66)) w.heap.size wr.heap.size (.slice q d.length H) d.length _ [ϊ k,ϊ x,ϊ y,ϊ a,ϊ b,.string s,.string t] rfl 22 (A.1.alloc _) oM (υ _ _) (by simp[Value.oneCell']) sO;obtain⟨W,C,rfl⟩:=qO0 O;have ai:Hid (w5.ownsRow w.heap.size 66 7 (.slice (some ⟨W,0,none⟩) (d.length+1) C) (d.length+1) (d.flatMap SOp.cells++[ϊ k,ϊ x,ϊ y,ϊ a,ϊ b,.string s,.string t])/\Kp [] w w5):=⟨O,(A.2.1.alloc _).grown aa (λk hk=>Or.inr (World.ownsRow.lt A.1 k hk).1)⟩;clear O aa
       go_wp2_with (at_builtin;((with_reducible refine qX5 ?_ ?_ ao ?_);rfl;rfl))
       obtain⟨r1,r2⟩:=ai.out;refine⟨⟨j+1,d++[⟨k,x,y,a,b,s,t⟩],some ⟨W,0,none⟩,C,oM,by go_num,sM,sO,?_,?_,r2⟩,by simp[intOf];omega⟩
       .intro o E;rcases List.mem_append.1 E with E|E
        .exact A.2.2 o E
        .rw[List.mem_singleton.1 E];exact⟨af,HJ⟩
       .rw[List.length_append,List.flatMap_append];simpa [SOp.cells] using r1
   .have am:¬(j:Int)<(n:Int):=oM
    have hs:=kM1 F;have H0:=hK.size;have ak:wr.cell? ⟨0,0,none⟩=some qE9:=(hK.cell (a:=⟨0,0,none⟩) G.1 sM).trans G.2.1;go_wp2_with fail;refine (HU q d.length H _ wr oM (by have:=G.out.1;omega) ak hs (λi L=>?_)).mono ?_
    .have e2:d.getD i ⟨0,0,0,0,0,⟨#[]⟩,⟨#[]⟩⟩=d[i]:=by simp[List.getD,L]
     show Fit ks (d.getD i _);rw[e2];exact D _ (List.getElem_mem L)
    rintro e w3 ⟨rfl,aj⟩;go_wp2;go_ret;exact⟨rfl,hK.tr aj⟩
end Go.Proofs.YtdohpenfkdckiaaGreatDoor.Gw
namespace Go.Proofs.YtdohpenfkdckiaaGreatDoor
open Go.Proofs.Tryz
open Go.RowKit
theorem kG4{base b:Nat}{S}{w w'}{e}{sz:Nat}{v}{n:Nat}{xs:List Value}(h:w.ownsRow b e sz v n xs)(j:Wx base S w w')(k:e≠117)(i:Apt w S [e]):w'.ownsRow b e sz v n xs:=by
 refine⟨h.1,?_⟩;rcases h.2 with a|⟨g,cap,cur,a,d,c,f⟩
 .exact Or.inl a
 .exact Or.inr ⟨g,cap,cur,a,d,j.oth _ _ _ _ c k (λl=>i g l _ _ _ c sM),f⟩
theorem kG2{w}{base:Nat}{e}{sz:Nat}{v}{n:Nat}{xs:List Value}{Ts:List TypeId}(h:w.ownsRow base e sz v n xs)(f:e ∉ Ts):Apt w v.ownBlock.toList Ts:=λq a c t i b=>by
 rcases h.2 with⟨rfl,_⟩|⟨g,cap,cur,rfl,_,d,_⟩
 .simp[Value.ownBlock] at a
 .simp only[Value.ownBlock,Option.toList_some,List.mem_singleton] at a;rw[a,d] at b;cases b;exact f
theorem zR4{w:World}{base:Nat}{e:TypeId}{sz:Nat}{v:Value}{n:Nat}{xs:List Value}(h:w.ownsRow base e sz v n xs):∀ k,v.ownBlock=some k->base<=k/\k<w.heap.size:=λk hk=>by
 refine⟨qI6 h k hk,?_⟩;rcases h.2 with⟨rfl,_⟩|⟨g,cap,cur,rfl,_,a,_⟩
 .simp[Value.ownBlock] at hk
 .simp only[Value.ownBlock,Option.some.injEq] at hk;rw[<-hk];exact ζ a
theorem zF5{X:Type}(f:Lnk X->List Nat->Lnk X × List (Nat × List UInt8) × List Nat)(g:Lnk X->Nat):∀ (ls:List (Lnk X)) (a:List Nat),(∀ l∈ls,∀ a,(f l a).2.1.length=g l)->(qB2 f ls a).2.1.length=meas g ls
 | [],a,_=>by simp[qB2,qD6]
 | l::ls,a,h=>by
  simp only[qB2,lA];rw[zF5 f g ls _ (λx b=>h x (by simp[b])),h l sM,qC1]
theorem qZ4:∀ (n:Nat) (l:Lnk (Tn n)) (a:List Nat),(ψ n l a).2.1.length=news n l
 | 0,l,a=>by
  simp only[ψ,news];split<;>simp
 | n+1,l,a=>by
  simp only[ψ,news];split
  .simp
  .simp only[lA,lC,List.length_nil];rw[zF5 (ψ n) (news n) _ a (λl _ a=>qZ4 n l a)];exact Nat.add_comm _ _
theorem xG1:∀ (n:Nat) (l:Lnk (Tn n)) (a:List Nat),(ψ n l a).1.key=l.key
 | 0,l,a=>by
  simp only[ψ];split<;>rfl
 | n+1,l,a=>by
  simp only[ψ];split<;>rfl
theorem zO1{X:Type}(f:Lnk X->List Nat->Lnk X × List (Nat × List UInt8) × List Nat):∀ (ls:List (Lnk X)) (a:List Nat),(qB2 f ls a).1.length=ls.length
 | [],a=>rfl
 | l::ls,a=>by simp only[qB2,lC,zO1 f ls]
theorem zF6(n:Nat):∀ (ls:List (Lnk (Tn n))) (a:List Nat),meas qA0 ((qB2 (ψ n) ls a).1.map lhl)=meas qA2 ls
 | [],a=>rfl
 | l::ls,a=>by
  simp only[qB2,List.map_cons,qC1,zF6 n ls];simp only[qA0,qA2,lhl,xG1]
theorem jY6(N n:Nat)(o:N<=1000)(l)(a)(c:l.key.size<=8)(j:∀ x,l.ref=some x->x.1<=1000000/\0<=x.2)(f:∀ b∈a,b<N):(lhl (ψ n l a).1).key.size<=8/\0<=(lhl (ψ n l a).1).b/\(lhl (ψ n l a).1).b<=1000000/\0<=(lhl (ψ n l a).1).s:=by
 have e:∀ g:List Nat,(∀ b∈g,b<N)->g.headD 0<=1000000:=λg d=>by
  cases g with
  | nil=>simp
  | cons b g=>have:=d b sM;simp;omega
 have i:∀ (m:Lnk (Tn n)),m.key.size<=8->(∀ x,m.ref=some x->x.1<=1000000/\0<=x.2)->(lhl m).key.size<=8/\0<=(lhl m).b/\(lhl m).b<=1000000/\0<=(lhl m).s:=λm h1 h2=>by
  refine⟨h1,?_⟩;simp only[lhl]
  cases hm:m.ref with
  | none=>simp
  | some x=>have:=h2 x hm;simp only[Option.getD_some];omega
 have h:∀ (k:ByteArray) (t:Tn n) (b:Nat) (s:Int),k.size<=8->b<=1000000->0<=s->(lhl (⟨k,some (b,s),t⟩:Lnk (Tn n))).key.size<=8/\0<=(lhl (⟨k,some (b,s),t⟩:Lnk (Tn n))).b/\(lhl (⟨k,some (b,s),t⟩:Lnk (Tn n))).b<=1000000/\0<=(lhl (⟨k,some (b,s),t⟩:Lnk (Tn n))).s:=λk t b s h1 h2 h3=>⟨h1,by simp only[lhl,Option.getD_some];omega⟩
 cases n with
 | zero=>
  simp only[ψ];split
  .exact i l c j
  .exact h _ _ _ _ c (e a f) (qY8 _)
 | succ n=>
  simp only[ψ];split
  .exact i l c j
  .have d:∀ b∈(qB2 (ψ n) (η l.sub) a).2.2,b<N:=λb hb=>by
    rw[qQ5 (ψ n) (news n) _ a (λl _ a=>qO5 n l a)] at hb;exact f b (mD hb)
   exact h _ _ _ _ c (e _ d) (qY8 _)
theorem xH9(N n:Nat)(d:N<=1000):∀ (ls:List (Lnk (Tn n))) (a:List Nat),(∀ l∈ls,l.key.size<=8/\∀ x,l.ref=some x->x.1<=1000000/\0<=x.2)->(∀ b∈a,b<N)->∀ p∈(qB2 (ψ n) ls a).1.map lhl,p.key.size<=8/\0<=p.b/\p.b<=1000000/\0<=p.s
 | [],a,_,_=>by simp[qB2]
 | l::ls,a,h,hf=>by
  intro p c;simp only[qB2,List.map_cons,mC] at c;rcases c with rfl|c
  .exact jY6 N n d l a (h l sM).1 (h l sM).2 hf
  .exact xH9 N n d ls _ (λx e=>h x (by simp[e])) (λb hb=>by rw[qO5] at hb;exact hf b (mD hb)) p c
variable {κ:Nat}
theorem jX4(wn:Int)(V A N C base F:Nat)(O:qE5)(hO:∀ (n b:Nat) (s:Int) (t:Tn n),O n b s t->b<=1000000/\0<=s)(n:Nat)(IH:qX8 κ wn V A N C base F O n)(hVA:V≠A)(hNN:N<=1000)(h r:HL)(q:Nat)(L:Lnk (Tn (n+1)))(b:Nat)(fr0 fr:List Nat)(ws:List (Nat × List UInt8))(w:World)
  (hy:Ly κ wn V A N C base F ws fr0 w) (hp:h.p=some q) (hq:RN O (n+1) w q L.sub) (hlv:n+1<256) (hok:∀ m∈η L.sub,OkL n m) (hm:2+meas qA2 (η L.sub)<=128) (hnl:(η L.sub).length<=126)
  (hn:meas (news n) (η L.sub)<=fr0.length) (hf:∀ b∈fr0,b<N) (hl:ws.length+fr0.length<=100000) (hfr:(qB2 (ψ n) (η L.sub) fr0).2.2=b::fr):
  Calls prog 174 #[τ V r,qC0 h,qR5 F] w λe w'=>e=.returned (qC0 ⟨h.key,(b:Int),fnv (qA5 ((n+1:Nat):Int) [] ((qB2 (ψ n) (η L.sub) fr0).1.map lhl)),none⟩)/\
   Ly κ wn V A N C base F (ws++(qB2 (ψ n) (η L.sub) fr0).2.1++[(b,toB (qA5 ((n+1:Nat):Int) [] ((qB2 (ψ n) (η L.sub) fr0).1.map lhl)))]) fr w'/\Wx base [A,F] w w':=by
 obtain⟨vl,hq,hs,hsl,hbo⟩:=hq;obtain⟨lb,lc,rfl⟩:=qO8 hsl;obtain⟨ln,hln⟩:=eX hs.length;obtain⟨pb,hpb⟩:∃ pb:Option Addr,pb=none:=⟨_,rfl⟩;obtain⟨pn,hpn⟩:=eX 0;obtain⟨pc,hpc⟩:=eX 0;obtain⟨lv,hlve⟩:∃ lv:Int,lv=((n+1:Nat):Int):=⟨_,rfl⟩;obtain⟨vl,hvl⟩:=eX (Value.slice lb ln lc);rw[<-hlve,<-hln,<-hvl] at hq;rw[<-hln] at hsl;have hq':Ϙ w q (ι lv (.slice pb pn pc) vl):=by rw[hpb,hpn,hpc];exact hq
 have HQ:=zh hq';have HPN:=zh (n6 hpb hpn hpc hlve hvl hln);have HSL:=zh hsl;have HBO:=zh hbo;have hqs:=ζ hq;have HY:=zh hy;have hptr:h.ptr=some ⟨q,0,none⟩:=by simp[HL.ptr,hp]
 rw[τ,qC0,hptr,qR5];obtain⟨R,hRe⟩:=eX (qB2 (ψ n) (η L.sub) fr0);rw[<-hRe];have HRE:=zh (n2 hRe hfr);clear hq hq' hy hp hptr hpb hpn hpc hlve hvl hln hsl hbo hRe hfr;go_enter func174,ntmps174;go_wp2_with fail;obtain⟨w0,hw0,hT0,hL0,hR0,hK0,hs0⟩:=qY0 w (.cells (ϟ V r) 89) (.cells #[.string h.key,ϊ h.b,.int .u64 h.s,ϖ q] 87) (.cells qK7 87);unfold qK7 at hR0 hw0;rw[<-hw0];clear hw0;have hS0:w0.drew.heap[w.heap.size+1]?=some (.cells #[.string h.key,ϊ h.b,.int .u64 h.s,ϖ q] 87)/\Ϙ w0.drew q (ι lv (.slice pb pn pc) vl):=⟨hL0,hK0.hp HQ.out⟩;refine wp_region_held_drew (S:=λW=>W.heap[w.heap.size+1]?=some (.cells #[.string h.key,ϊ h.b,.int .u64 h.s,ϖ q] 87)/\Ϙ W q (ι lv (.slice pb pn pc) vl)) kR hS0 (λ_=>?_);refine zU 0 (.pointer (some ⟨w.heap.size+1,3,none⟩)) hS0 ?_;refine zV 1 (ϖ q) rfl (λW hS=>by have a:=ϻ hS.1 3;clear hS;go_simp) hS0 ?_;refine zV 2 (ϖ q) rfl (λW hS=>by have c:=ζ hS.2;clear hS;go_simp) hS0 ?_;refine zP 3 q 0 hS0 ?_;refine zV 4 (ϊ lv) rfl (λW hS=>by have a:=ξ hS.2 0;simp only[ι,zG,zH,zI] at a;clear hS;go_simp) hS0 ?_;refine zU 5 (.pointer (some ⟨w.heap.size+1,3,none⟩)) hS0 ?_;refine zV 6 (ϖ q) rfl (λW hS=>by have a:=ϻ hS.1 3;clear hS;go_simp) hS0 ?_;refine zV 7 (ϖ q) rfl (λW hS=>by have c:=ζ hS.2;clear hS;go_simp) hS0 ?_;refine zP 8 q 1 hS0 ?_;refine zV 9 (.slice pb pn pc) rfl (λW hS=>by have a:=ξ hS.2 1;simp only[ι,zG,zH,zI] at a;clear hS;go_simp) hS0 ?_;refine zU 10 (.agg #[ϊ lv,.slice pb pn pc,.slice none 0 0]) hS0 ?_;refine zq 11 λK hK=>?_;go_simp;obtain⟨w1,hw1,hN1,hK1⟩:∃ w1,w1=(w0.alloc (.cells #[ϊ 0,.slice none 0 0,.slice none 0 0] 213)).drew/\w1.heap[w.heap.size+3]?=some (.cells #[ϊ 0,.slice none 0 0,.slice none 0 0] 213)/\Kp [] w0 w1:=⟨_,rfl,by rw[<-hs0];exact υ w0 _,((Kp.refl _ _).alloc _).drew⟩;rw[<-hw1];have hs1:w1.heap.size=w.heap.size+4:=by rw[hw1];simp[hs0]
 clear hw1;refine hK.out _ _ ⟨hK1.hp hS0.1,hK1.hp hS0.2⟩ (λ_=>?_)
 try simp only[zZ]
 refine zq 12 λK hK=>?_;have z0:=ξ hN1;have f0:=φ hN1;have hN1s:=ζ hN1;have HN1:=zh hN1;clear hN1;go_simp;obtain⟨w2,hw2,hN2,hK2⟩:∃ w2,w2=((w1.setCell ⟨w.heap.size+3,0,none⟩ (ϊ lv)).setCell ⟨w.heap.size+3,1,none⟩ (.slice pb pn pc)).setCell ⟨w.heap.size+3,2,none⟩ (.slice none 0 0)/\w2.heap[w.heap.size+3]?=some (ι lv (.slice pb pn pc) (.slice none 0 0))/\Kp [w.heap.size+3] w1 w2:=
  ⟨_,rfl,μ (μ (μ HN1.out 0 _) 1 _) 2 _,(((Kp.refl _ _).sc _).sc _).sc _⟩
 rw[<-hw2];clear hw2 z0 f0;have hKw2:=(hK0.tr hK1).tr hK2;have hK02:=hK1.trans hK2 sO;have hS2:=And.intro (hK02.hp hS0.1) (hK02.hp hS0.2);refine hK.out _ _ hS2 (λ_=>?_);refine zd ?_
 try simp only[zZ]
 have hs2:w.heap.size+4<=w2.heap.size:=by have:=hK2.size;omega
 have hT2:=hK02.hp hT0;have hR2:=hK02.hp hR0;have l3:=ξ hS2.1 3;have q2:=ξ hS2.2 2;simp only[ι,zG,zH,zI] at l3 q2;have HL2:=zh hS2.1;have HT2:=zh hT2;have HR2:=zh hR2;have HN2:=zh hN2;have HK2:=zh hKw2;have hqs2:=ζ hS2.2;clear hS0 hS2 hT2 hR2 hN2 hKw2 hK02 hK2 hK1 hK0 hT0 hL0 hR0 HN1 hN1s hs1 hs0;rw[HPN.out.2.2.2.2.1] at q2;have hAs:A<w.heap.size:=by obtain⟨v,c1,h1,_⟩:=HY.out.hA;exact ζ h1
 have hFs:F<w.heap.size:=by obtain⟨vf,h1,_⟩:=HY.out.hF;exact ζ h1
 have HY2:=zh (HY.out.keep HK2.out);have HW2:Hid (Wx base [A,F] w w2):=Wx.ofKp (HK2.out.mono sM) HY.out.low;go_wp2_with fail
 go_loopw [31] (λi wr=>∃ (j:Nat) (vj:Value),j<=ln/\i=.int .i64 j/\w.heap.size+4<=wr.heap.size/\Hid (wr.heap[w.heap.size+1]?=some (.cells #[.string h.key,ϊ h.b,.int .u64 h.s,ϖ q] 87))/\Hid (Ϙ wr w.heap.size (.cells (ϟ V r) 89))/\Hid (wr.heap[w.heap.size+1+1]?=some (.cells ϙ 87))/\Hid (wr.heap[w.heap.size+3]?=some (ι lv (.slice pb pn pc) vj))/\Hid (wr.ownsRow (w.heap.size+4) 87 4 vj j (qA7 ((qB2 (ψ n) ((η L.sub).take j) fr0).1.map lhl)))/\Hid (Ly κ wn V A N C base F (ws++(qB2 (ψ n) ((η L.sub).take j) fr0).2.1) (qB2 (ψ n) ((η L.sub).take j) fr0).2.2 wr)/\Hid (Wx base [A,F] w wr)) (λi _=>ln-(intOf i).toNat)
 case atStart=>exact⟨0,.slice none 0 0,Nat.zero_le _,rfl,hs2,HL2,HT2,HR2,HN2,by show World.ownsRow _ _ _ _ _ _ _;exact World.ownsRow_nil _ _ _ _,by show Ly _ _ _ _ _ _ _ _ _ _ _;simpa [qB2] using HY2.out,HW2⟩
 case round=>
  obtain⟨j,vj,hj,rfl,hsw,HLr,HTr,HRr,HNr,HOr,HYr,HWr⟩:=hrel;clear l3 q2 HL2 HT2 HR2 HN2 HY2 HW2 hs2 hqs2;by_cases hlt:j<ln
  .have hjl:j<hs.length:=by have:=HPN.out;omega
   have hjm:j<(η L.sub).length:=by rw[<-HBO.out.1];exact hjl
   have hsl0:=HSL.out;rw[HPN.out.2.2.2.2.2] at hsl0;obtain⟨gb,off,cp',cur,fq,hv,hcp,hrow,hcur⟩:=hsl0.link oM;obtain⟨c0,c1,c2,c3⟩:=hcur j hjl;simp only[Value.slice.injEq,true_and] at hv;obtain⟨rfl,rfl⟩:=hv;have hap:=HY.out.apt;have hR:=HWr.out.oth _ _ _ _ hrow dC (λhm=>hap _ hm _ _ _ hrow dC);have a0:=ξ hR (off+j*4);have a1:=ξ hR (off+j*4+1);have a2:=ξ hR (off+j*4+2);have a3:=ξ hR (off+j*4+3);rw[c0] at a0;rw[c1] at a1;rw[c2] at a2;rw[c3] at a3;have hgs:=ζ hR;have hjb:(j:Int)<(ln:Int):=oM
   have HRL:Hid (RL O n wr hs[j] (η L.sub)[j]):=(HBO.out.2 j hjl hjm).mono (λq hq=>RN.wx HWr.out hap n q _ hq) (λ_ _ h=>h);clear hcur hsl0 hcp hap;go_wp2_with fail;rename_i K0 hK0;obtain⟨X,hX⟩:=eX (lhl (ψ n (η L.sub)[j] (qB2 (ψ n) ((η L.sub).take j) fr0).2.2).1);have hXp:X.ptr=none:=by rw[hX];rfl
   have hsn:=xG0 (ψ n) ((η L.sub).take j) (η L.sub)[j] fr0;rw[<-List.take_succ_eq_append_getElem hjm] at hsn;have HSN:=zh hsn;have HX:=zh hX;obtain⟨w1,hw1,h91,hK1,hs1⟩:=qF7 wr (.cells #[.string hs[j].key,ϊ hs[j].b,.int .u64 hs[j].s,.pointer hs[j].ptr] 87);rw[<-hw1];clear hw1 hsn hX a0 a1 a2 a3 hR hrow c0 c1 c2 c3 hgs hjb;have hSd:Ϙ w1.drew w.heap.size (.cells (ϟ V r) 89)/\Ϙ w1.drew wr.heap.size (.cells #[.string hs[j].key,ϊ hs[j].b,.int .u64 hs[j].s,.pointer hs[j].ptr] 87):=⟨hK1.hp HTr.out,h91⟩;have hKd:=hK1.drew;have hNd:=hKd.hp HNr.out;have hYd:=HYr.out.keep hKd;have HCALL:Hid (Ω 174 #[τ V r,qC0 hs[j],qR5 F] w1.drew λe w'=>e=ϱ (.agg #[.string X.key,ϊ X.b,.int .u64 X.s,.pointer none])/\Ly κ wn V A N C base F (ws++(qB2 (ψ n) ((η L.sub).take (j+1)) fr0).2.1) (qB2 (ψ n) ((η L.sub).take (j+1)) fr0).2.2 w'/\Wx base [A,F] w1.drew w'):=by
    have hfree:=qQ5 (ψ n) (news n) ((η L.sub).take j) fr0 (λl _ fr=>qO5 n l fr);have hcnt:=zF5 (ψ n) (news n) ((η L.sub).take j) fr0 (λl _ fr=>qZ4 n l fr);have hmj:=zA2 (news n) (η L.sub) j hjm;refine (IH hs[j] r (η L.sub)[j] _ _ w1.drew hYd (RL.keep HRL.out hKd (Apt.nil _ _)) (hok _ (List.getElem_mem hjm)) (by rw[hfree,List.length_drop];omega) (λb hb=>hf b (by rw[hfree] at hb;exact List.mem_of_mem_drop hb)) (by rw[hfree,List.length_append,hcnt,List.length_drop];omega)).mono ?_;rintro e w' ⟨rfl,h1,h2⟩;rw[HSN.out,<-List.append_assoc];exact⟨by rw[<-HX.out,qC0,hXp],h1,h2⟩
   have HIN:=zh hKd;refine zH6 (α:=Nat->Nat->Nat->Act) (R:=λA0=>∀ g c d W,(w.heap.size+4<=W.heap.size/\W.heap[w.heap.size+1]?=some (.cells #[.string h.key,ϊ h.b,.int .u64 h.s,ϖ q] 87)/\Ϙ W w.heap.size (.cells (ϟ V r) 89)/\W.heap[w.heap.size+1+1]?=some (.cells ϙ 87)/\W.heap[w.heap.size+3]?=some (ι lv (.slice pb pn pc) (.slice (some ⟨g,0,none⟩) (j+1) c))/\W.ownsRow (w.heap.size+4) 87 4 (.slice (some ⟨g,0,none⟩) (j+1) c) (j+1) (qA7 ((qB2 (ψ n) ((η L.sub).take (j+1)) fr0).1.map lhl))/\Ly κ wn V A N C base F (ws++(qB2 (ψ n) ((η L.sub).take (j+1)) fr0).2.1) (qB2 (ψ n) ((η L.sub).take (j+1)) fr0).2.2 W/\Wx base [A,F] w W)->K0 (A0 g c d) W) ?_;apply Exists.intro;apply And.intro
   rotate_left
   .intro HREST;refine wp_region_held_drew (S:=λW=>Ϙ W w.heap.size (.cells (ϟ V r) 89)/\Ϙ W wr.heap.size (.cells #[.string hs[j].key,ϊ hs[j].b,.int .u64 hs[j].s,.pointer hs[j].ptr] 87)) kR hSd (λ_=>?_);refine zU 0 (.pointer (some ⟨w.heap.size+3,2,none⟩)) hSd ?_;refine zV 2 (.agg (ϟ V r)) rfl (λW hS=>by have a:=ξ hS.1;clear hS;go_simp) hSd ?_;refine zV 3 (.agg #[.string hs[j].key,ϊ hs[j].b,.int .u64 hs[j].s,.pointer hs[j].ptr]) rfl (λW hS=>by have a:=ξ hS.2;clear hS;go_simp) hSd ?_;refine zU 4 (.func (.func 175) #[] #[ϖ F]) hSd ?_;refine zr 1 5 (λK hK=>?_) λK hK=>?_
    focus
     have c2:=ξ hNd 2;simp only[ι,zG,zH,zI] at c2;go_simp;refine hK.out _ _ hSd (λ_=>?_);clear hK K c2
     try simp only[zZ]
     refine zq 5 λK hK=>?_;go_simp;refine (show Calls _ _ _ _ _ from HCALL.out).mono ?_;rintro e w2 ⟨rfl,hy2,hW2⟩;have hS2:=And.intro (hW2.oth _ _ _ _ hSd.1 dC sO) (hW2.oth _ _ _ _ hSd.2 dC sO);have hN2:=hW2.oth _ _ _ _ hNd dC sO;have hs2:w1.heap.size<=w2.heap.size:=hW2.size;refine zk hK hS2 ?_
     refine zq 6 λK hK=>?_;go_simp;obtain⟨w3,hw3,hB3,hK3,hs3⟩:=qF7 w2 (.cells #[.string X.key,ϊ X.b,.int .u64 X.s,.pointer none] 87);rw[<-hw3];clear hw3;obtain⟨d,hd⟩:=eX w2.heap.size;rw[<-hd] at hB3 |-;clear hd;have hS3:=And.intro (hK3.hp hS2.1) (hK3.hp hS2.2);have hN3:=hK3.hp hN2;refine zk hK hS3 ?_
    rotate_left
    focus
     go_simp;refine (show Calls _ _ _ _ _ from HCALL.out).mono ?_;rintro e w2 ⟨rfl,hy2,hW2⟩;have hS2:=And.intro (hW2.oth _ _ _ _ hSd.1 dC sO) (hW2.oth _ _ _ _ hSd.2 dC sO);have hN2:=hW2.oth _ _ _ _ hNd dC sO;have hs2:w1.heap.size<=w2.heap.size:=hW2.size;refine zk hK hS2 ?_
     refine zr 1 6 (λK hK=>?_) λK hK=>?_
     focus
      have c2:=ξ hN2 2;simp only[ι,zG,zH,zI] at c2;go_simp;refine hK.out _ _ hS2 (λ_=>?_);clear hK K c2
      try simp only[zZ]
      refine zq 6 λK hK=>?_;go_simp;obtain⟨w3,hw3,hB3,hK3,hs3⟩:=qF7 w2 (.cells #[.string X.key,ϊ X.b,.int .u64 X.s,.pointer none] 87);rw[<-hw3];clear hw3;obtain⟨d,hd⟩:=eX w2.heap.size;rw[<-hd] at hB3 |-;clear hd;have hS3:=And.intro (hK3.hp hS2.1) (hK3.hp hS2.2);have hN3:=hK3.hp hN2;refine zk hK hS3 ?_
     rotate_left
     focus
      go_simp;obtain⟨w3,hw3,hB3,hK3,hs3⟩:=qF7 w2 (.cells #[.string X.key,ϊ X.b,.int .u64 X.s,.pointer none] 87);rw[<-hw3];clear hw3;obtain⟨d,hd⟩:=eX w2.heap.size;rw[<-hd] at hB3 |-;clear hd;have hS3:=And.intro (hK3.hp hS2.1) (hK3.hp hS2.2);have hN3:=hK3.hp hN2;refine zk hK hS3 ?_
      refine zq 1 λK hK=>?_;have c2:=ξ hN3 2;simp only[ι,zG,zH,zI] at c2;go_simp;refine hK.out _ _ hS3 (λ_=>?_);clear hK K c2
      try simp only[zZ]
    all_goals
     have hownd:=qJ2 HOr.out HIN.out (Apt.nil _ _);have hown3:=qJ2 (kG4 hownd hW2 dC (hYd.apt.sub dC)) hK3 (Apt.nil _ _);refine zq 7 λK hK=>?_;refine zB3 rfl rfl (.agg #[.string ⟨#[]⟩,ϊ 0,.int .u64 0,.pointer none]) 4 40 underlying156 qV5 rfl dC (w.heap.size+4) vj j _ (by simp[Act.eval]) hown3 d 0 1 1 #[.string X.key,ϊ X.b,.int .u64 X.s,.pointer none] 87 (0,0) (by simp[Act.eval]) hB3 sM (by simp[qA9,Value.oneCell']) oM oM oM ?_;intro v4 w4 hown4 hgr4 _;obtain⟨g1,cap1,rfl⟩:=qO0 (n:=j) hown4;have hKg:Kp vj.ownBlock.toList w3 w4:=(Kp.refl _ _).grown hgr4 (λk hk=>Or.inl (by simp[hk]));have hlo:∀ k,k<w.heap.size+4\/k=wr.heap.size->k ∉ vj.ownBlock.toList:=λk hk hm=>by
      have h1:=zR4 HOr.out k (by simpa using hm);omega
     have hS4:=And.intro (hKg.heap hS3.1 (hlo _ oM)) (hKg.heap hS3.2 (hlo _ (Or.inr rfl)));have hN4:=hKg.heap hN3 (hlo _ oM);have hN4s:=ζ hN4;refine zk hK hS4 ?_
     refine zU 8 (.pointer (some ⟨w.heap.size+3,2,none⟩)) hS4 ?_;refine zq 9 λK hK=>?_;have d2:=ξ hN4 2;simp only[ι,zG,zH,zI] at d2;have e2:=φ hN4 2;go_simp;have hKs:Kp [w.heap.size+3] w4 (w4.setCell ⟨w.heap.size+3,2,none⟩ (.slice (some ⟨g1,0,none⟩) (j+1) cap1)):=(Kp.refl _ _).sc _;have hR5:=μ hN4 2 (.slice (some ⟨g1,0,none⟩) (j+1) cap1);have haN:∀ {Ts:List TypeId},213 ∉ Ts->Apt w4 [w.heap.size+3] Ts:=λhT q hq c t fr e=>by rw[List.mem_singleton.1 hq,hN4] at e;cases e;exact hT
     generalize w4.setCell ⟨w.heap.size+3,2,none⟩ (.slice (some ⟨g1,0,none⟩) (j+1) cap1)=w5 at hKs hR5 |-;refine hK.out _ _ ⟨hKs.hp hS4.1,hKs.ho hS4.2⟩ (λ_=>?_);clear hK K d2 e2;refine zd ?_
     try simp only[zZ]
     have hw5:=((((HWr.out.trans ((Wx.ofKp (HIN.out.mono sM) HYr.out.low).trans hW2)).tail hK3 sM HY.out.low).tail hKg (λk hk=>by have:=zR4 HOr.out k (by simpa using hk);omega) HY.out.low).tail hKs sM HY.out.low);have hy5:=((hy2.keep hK3).turn hKg (kG2 hown3 dC)).turn hKs (haN dC);have hK35:∀ k c t fr,Ϙ w3 k (.cells c t fr)->k<w.heap.size+3->Ϙ w5 k (.cells c t fr):=λk c t fr e hk=>hKs.heap (hKg.heap e (hlo k oM)) sO;have hto:∀ k c t fr,Ϙ wr k (.cells c t fr)->t≠117->w.heap.size<=k->k<w.heap.size+3->Ϙ w5 k (.cells c t fr):=λk c t fr e ht h1 h2=>hK35 k c t fr (hK3.heap (hW2.oth _ _ _ _ (HIN.out.hp e) ht sO) sM) h2;show K0 _ w5;refine HREST g1 cap1 d w5 ⟨by have:=hKs.size;have:=hKg.size;omega,hto _ _ _ _ HLr.out dC oM oM,hto _ _ _ _ HTr.out dC oM oM,hto _ _ _ _ HRr.out dC oM oM,hR5,?_,hy5,hw5⟩;have e:qA7 ((qB2 (ψ n) ((η L.sub).take (j+1)) fr0).1.map lhl)=qA7 ((qB2 (ψ n) ((η L.sub).take j) fr0).1.map lhl)++(qA9 #[.string X.key,ϊ X.b,.int .u64 X.s,.pointer none] 0 (1*4)).toList:=by
      rw[HSN.out,List.map_append,List.map_cons,List.map_nil,<-HX.out];simp[qA7,lcs,qA9,hXp]
     rw[e];exact qJ2 hown4 hKs (haN dC)
   rintro g c d W ⟨e1,e2,e3,e4,e5,e6,e7,e8⟩;refine hK0 _ _ ?_;have HE:Hid (w.heap.size+4<=W.heap.size/\W.heap[w.heap.size+1]?=some (.cells #[.string h.key,ϊ h.b,.int .u64 h.s,ϖ q] 87)/\Ϙ W w.heap.size (.cells (ϟ V r) 89)/\W.heap[w.heap.size+1+1]?=some (.cells ϙ 87)/\W.heap[w.heap.size+3]?=some (ι lv (.slice pb pn pc) (.slice (some ⟨g,0,none⟩) (j+1) c))/\W.ownsRow (w.heap.size+4) 87 4 (.slice (some ⟨g,0,none⟩) (j+1) c) (j+1) (qA7 ((qB2 (ψ n) ((η L.sub).take (j+1)) fr0).1.map lhl))/\Ly κ wn V A N C base F (ws++(qB2 (ψ n) ((η L.sub).take (j+1)) fr0).2.1) (qB2 (ψ n) ((η L.sub).take (j+1)) fr0).2.2 W/\Wx base [A,F] w W):=⟨e1,e2,e3,e4,e5,e6,e7,e8⟩;clear e1 e2 e3 e4 e5 e6 e7 e8 hSd hKd hNd hYd h91 hK1 hK0 K0;go_wp2;exact⟨⟨j+1,_,oM,by go_num,HE.out.1,HE.out.2.1,HE.out.2.2.1,HE.out.2.2.2.1,HE.out.2.2.2.2.1,HE.out.2.2.2.2.2.1,HE.out.2.2.2.2.2.2.1,HE.out.2.2.2.2.2.2.2⟩,by simp[intOf];omega⟩
  .have hje:(η L.sub).take j=η L.sub:=List.take_of_length_le (by rw[<-HBO.out.1];have:=HPN.out;omega);have hjn:j=(η L.sub).length:=by rw[<-HBO.out.1];have:=HPN.out;omega
   have hjb:¬(j:Int)<(ln:Int):=oM
   have hfr:=HRE.out.2;have hRe:=HRE.out.1;have hOe:=HOr.out;have hYe:=HYr.out;rw[hje] at hOe hYe;rw[hfr] at hYe;have hb:=hf b (by have h:=qQ5 (ψ n) (news n) (η L.sub) fr0 (λl _ fr=>qO5 n l fr);rw[hfr] at h;exact List.mem_of_mem_drop (h ▸ List.mem_cons_self));have hcnt:=zF5 (ψ n) (news n) (η L.sub) fr0 (λl _ fr=>qZ4 n l fr);have hlen:=zO1 (ψ n) (η L.sub) fr0;have hfl:fr.length<=100000:=by have h:=congrArg List.length (qQ5 (ψ n) (news n) (η L.sub) fr0 (λl _ fr=>qO5 n l fr));rw[hfr] at h;simp at h;omega
   have hms:=zF6 n (η L.sub) fr0;have hzl:=xH9 N n hNN (η L.sub) fr0 (λl hl=>by
    obtain⟨i,hi,rfl⟩:=List.getElem_of_mem hl;refine⟨by have h:=hok _ hl;cases n with | zero=>exact h.1 | succ n=>exact h.1,λx hx=>?_⟩;have h2:=(HBO.out.2 i (by rw[HBO.out.1];exact hi) hi).2;rw[hx] at h2;exact hO _ _ _ _ h2.2.2.2) hf
   rw[<-hRe] at hOe hYe hcnt hlen hms hzl;have hwl:(ws++R.2.1).length<=100000:=by rw[List.length_append,hcnt];omega
   have HYE:=zh hYe;have HOE:Hid (wr.ownsRow (w.heap.size+4) 87 4 vj (R.1.map lhl).length (qA7 (R.1.map lhl))):=by rw[List.length_map,hlen,<-hjn];exact hOe
   have HZL:=zh hzl;have HMS:Hid (2+meas ρ []+meas qA0 (R.1.map lhl)<=128/\([]:List KV).length+(R.1.map lhl).length<=255):=⟨by rw[hms,qD6];omega,by rw[List.length_map,hlen];simp;omega⟩;clear hje hjn hOe hYe hcnt hlen hms hzl hfr hRe IH hok hm hn;go_wp2_with fail;have hSd:wr.drew.heap[w.heap.size+1]?=some (.cells #[.string h.key,ϊ h.b,.int .u64 h.s,ϖ q] 87)/\Ϙ wr.drew w.heap.size (.cells (ϟ V r) 89):=⟨HLr.out,HTr.out⟩;refine wp_region_held_drew (S:=λW=>W.heap[w.heap.size+1]?=some (.cells #[.string h.key,ϊ h.b,.int .u64 h.s,ϖ q] 87)/\Ϙ W w.heap.size (.cells (ϟ V r) 89)) kR hSd (λ_=>?_);refine zU 0 (ϖ (w.heap.size+1)) hSd ?_;refine zV 1 (.string h.key) rfl (λW hS=>by have a:=ϻ hS.1 0;clear hS;go_simp) hSd ?_;refine zP 2 w.heap.size 0 hSd ?_;refine zV 3 (ϖ V) rfl (λW hS=>by have a:=ϻ hS.2 0;clear hS;go_simp) hSd ?_;refine zU 4 (.func (.func 175) #[] #[ϖ F]) hSd ?_;refine zq 5 λK hK=>?_;have hcf:=zY4;go_simp;refine ((HYE.out.keep ((Kp.refl _ wr).drew)).next hfl).mono ?_;rintro e w3 ⟨rfl,hy3,hW3⟩;have hS3:=And.intro (hW3.oth _ _ _ _ hSd.1 dC sO) (hW3.oth _ _ _ _ hSd.2 dC sO);have hR3:=hW3.oth _ _ _ _ HRr.out dC sO;have hq3:=hW3.oth _ _ _ _ HNr.out dC sO;have hs3:=hW3.size;have hsl3:=((qL0 HOE.out).keep0 ((Kp.refl _ wr).drew)).wx hW3 dC ((HYE.out.keep ((Kp.refl _ wr).drew)).apt.sub dC);refine hK.out _ _ hS3 (λ_=>?_);clear hK K hcf
   try simp only[zZ]
   refine zq 6 λK hK=>?_;go_simp;refine (hy3.lay hVA hwl hb hNN (w.heap.size+3) lv (.slice pb pn pc) vj [] (R.1.map lhl) hq3 (by have:=HPN.out;omega) (by have:=HPN.out;omega) (by have e:=HPN.out;rw[e.1,e.2.1,e.2.2.1];exact⟨rfl,Or.inl ⟨rfl,none,0,rfl,λ_=>rfl⟩⟩) hsl3 HMS.out.1 HMS.out.2 sM HZL.out).mono ?_;rintro e w4 ⟨rfl,hy4,hW4⟩;have hS4:=And.intro (hW4.oth _ _ _ _ hS3.1 dC sO) (hW4.oth _ _ _ _ hS3.2 dC sO);have hR4:=hW4.oth _ _ _ _ hR3 dC sO;refine zk hK hS4 ?_
   refine zU 7 (.agg #[.string h.key,ϊ b,.int .u64 (fnv (qA5 lv [] (R.1.map lhl))),.pointer none]) hS4 ?_;refine zq 8 λK hK=>?_;have z0:=ξ hR4;have f0:=φ hR4;have hR4s:=ζ hR4;have hls:=qT8 (.string h.key) (ϊ (b:Int)) (.int .u64 (fnv (qA5 lv [] (R.1.map lhl)))) (.pointer none) hR4;have HR4:=zh hR4;clear hR4;go_simp;obtain⟨w5,hw5,hR5,hK5⟩:=gE hls;rw[<-hw5];clear hw5 hls z0 f0;refine hK.out _ _ ⟨hK5.hp hS4.1,hK5.ho hS4.2⟩ (λ_=>?_);refine zd ?_
   try simp only[zZ]
   have hap:Apt w4 [w.heap.size+1+1] [263,114,117,24,3]:=λq hq c t fr e=>by rw[List.mem_singleton.1 hq,HR4.out] at e;cases e;decide
   have HY5:=zh (hy4.turn hK5 hap);have HW5:=zh (((HWr.out).trans (((Wx.ofKp (Kp.mono (S:=[]) ((Kp.refl _ wr).drew) sM) HYE.out.low).trans hW3).trans hW4)).tail hK5 sO HY.out.low);have HR5:=zh hR5;clear hSd hS3 hS4 hR3 hq3 hy3 hW3 hy4 hW4 hR5 hK5 hap HR4 hR4s;go_wp2_with fail;exact bodyPost_ret (results_cell_row results174 _ _ (w.heap.size+1+1) 87 #[.string h.key,ϊ (b:Int),.int .u64 (fnv (qA5 lv [] (R.1.map lhl))),.pointer none] (0,0) _ rfl HR5.out underlying87 rfl kR) rfl ⟨by simp only[qC0,HL.ptr,HPN.out.2.2.2.1,Option.map_none],by have h:=HY5.out;rw[HPN.out.2.2.2.1] at h;exact h,HW5.out⟩
variable {κ:Nat}
theorem jX7(g:Int)(V A N C base F:Nat)(O:qE5)(u:∀ (n b:Nat) (s:Int) (t),O n b s t->b<=1000000/\0<=s)(v:V≠A)(p:N<=1000)(n:Nat)(m:qX8 κ g V A N C base F O n):qX8 κ g V A N C base F O (n+1):=by
 intro h r L a J w f j G S z E
 cases hx:L.ref with
 | some x=>
  have k:L.ref.isSome:=by rw[hx];rfl
  obtain⟨d,y⟩:=zQ8 j k;have e:ψ (n+1) L a=(L,[],a):=by simp only[ψ,if_pos k]
  rw[e];refine (zO8 V r h (qR5 F) w d).mono ?_;rintro e I ⟨rfl,hK⟩;exact⟨by rw[<-y],by simpa using f.keep hK,Wx.ofKp (hK.mono sM) f.low⟩
 | none=>
  obtain⟨D,q,d,H⟩:=zP8 j hx;have i:¬L.ref.isSome=true:=by rw[hx];simp
  have R:news (n+1) L=1+meas (news n) (η L.sub):=by simp only[news,if_neg i]
  have B:=qQ5 (ψ n) (news n) (η L.sub) a (λl _ a=>qO5 n l a);obtain⟨K,M,P,Q⟩:=G.2 hx
  cases hfr:(qB2 (ψ n) (η L.sub) a).2.2 with
  | nil=>
   have c:=congrArg List.length B;rw[hfr,lD] at c;simp at c;omega
  | cons b fr'=>
   have e:ψ (n+1) L a=(⟨L.key,some (b,fnv (qA5 ((n+1:Nat):Int) [] ((qB2 (ψ n) (η L.sub) a).1.map lhl))),(qB2 (ψ n) (η L.sub) a).1⟩,(qB2 (ψ n) (η L.sub) a).2.1++[(b,toB (qA5 ((n+1:Nat):Int) [] ((qB2 (ψ n) (η L.sub) a).1.map lhl)))],fr'):=by
    simp only[ψ,if_neg i,hfr,List.headD_cons,List.tail_cons]
   rw[e];refine (jX4 g V A N C base F O u n m v p h r q L b a fr' J w f d H K M P Q oM z E hfr).mono ?_;rintro e I ⟨rfl,c,o⟩;exact⟨by simp only[lhl,D,Option.getD_some],by rw[<-aA];exact c,o⟩
theorem xG4(a:Int)(V A N C base F:Nat)(O:qE5)(e:∀ (n b:Nat) (s:Int) (t:Tn n),O n b s t->b<=1000000/\0<=s)(d:V≠A)(c:N<=1000):∀ n,qX8 κ a V A N C base F O n
 | 0=>jX8 a V A N C base F O d c
 | n+1=>jX7 a V A N C base F O e d c n (xG4 a V A N C base F O e d c n)
theorem xP9(V A N C:Nat)(l)(f:Int)(ah:V≠A)(af:C≠A)(ai:V≠C)(hN:N<=1000)(hs:N*128<=l.length)(h X)(fr)(c)(v)(w)(o:Devl V A N C l f w)(y:Slc w 3 1 v fr.length (qH5 fr))(z:∀ x∈c,x.1<N/\x.2.length=128)(ak:c.length<=10000)(aj:X.ptr=none)
  (Y:∀ (F:Nat) (a),Kp [] w a->Ly (l.length / 128) f V A N C a.heap.size F [] fr a->Calls prog 174 #[τ V h,qC0 h,qR5 F] a λe m=>e=.returned (qC0 X)/\(∃ fr',Ly (l.length / 128) f V A N C a.heap.size F c fr' m)/\Wx a.heap.size [A,F] a m):
  Calls prog 115 #[τ V h,v] w λe m=>e=.returned (.agg #[.int .i64 X.b,.int .u64 X.s])/\Devl V A N C (laidAll l c) (nk f c.length) m/\Kp [A,C] w m:=by
 obtain⟨ae,r⟩:=o.hA;obtain⟨G,I,rfl⟩:=qO8 y;obtain⟨J,p⟩:=eX fr.length;have E:Hid (Slc w 3 1 (.slice G J I) fr.length (qH5 fr)):=by rw[p];exact y
 rw[<-p];have q:=zh o;have HA:=zh r;have al:=zh p;have an:=ζ r;have ao:=ζ o.hC;have B:=zh Y;clear o y r p Y;rw[τ];go_enter func115,ntmps115;go_wp2_with fail;obtain⟨a,aa,U,Q,S,b,av⟩:=qY0 w (.cells (ϟ V h) 89) (.cells #[.slice G J I] 24) (.cells #[ϊ 0,.int .u64 0] 84);rw[<-aa];clear aa;have hy:Ly (l.length / 128) f V A N C a.heap.size (w.heap.size+1) [] fr a:=⟨b.hp q.hV,⟨.slice none 0 0,ae,b.hp HA,wN _ _ _ _⟩,⟨_,Q,E.keep0 b⟩,lR⟩;have M:=b.hp q.hC;refine (show Calls _ _ _ _ _ from B (w.heap.size+1) a b hy).mono ?_;rintro e w1 ⟨rfl,⟨fr',hy1⟩,hW1⟩;rw[qC0,aj];obtain⟨v1,H,K,Z⟩:=hy1.hA;have t:=hW1.oth _ _ _ _ U dC sO;have T:=hW1.oth _ _ _ _ S dC sO;have O:=hW1.oth _ _ _ _ M dC sO;have u:=hy1.hV;have aw:=hW1.size;have D:Hid (Kp [A] w w1):=⟨hW1.os.trans b.os,hW1.tape.trans b.tape,hW1.output.trans b.output,lT b.size hW1.size,λk hk hm=>(hW1.low k oM (by simp at hm |-;omega)).trans (b.block k hk sM)⟩;clear hy hy1 hW1 M U Q S b E B;have t0:=ϻ t 0;have ar:=ζ t;go_wp2_with fail;obtain⟨w2,ab,R,d,ax⟩:=qF7 w1 (.cells #[.string X.key,ϊ X.b,.int .u64 X.s,.pointer none] 87);rw[<-ab];clear ab t0;refine (zS7 V A N C a.heap.size v1 c H (nk f c.length) l w2 (d.hp u) (d.hp K) (qJ2 Z d (Apt.nil _ _)) z oM hN (d.hp O) hs af).mono ?_;rintro e g ⟨rfl,L,P,i⟩;have s:=i.ho R;have j:=i.heap (d.hp T) sO;have W:=i.heap (d.hp u) (by simp[ah,ai]);have ap:=ζ s;have aq:=ζ j;have z1:=ξ s;have y0:=ξ j;have am:=φ j;have ad:=zh j;have ac:Hid (Ϙ g V (qE4 A N)/\Ϙ g A (qA8 ((laidAll l c).length / 128) N C (.slice none 0 0) (nx H) (nk f c.length))/\Ϙ g C (.cells (enc (laidAll l c)) 115)/\Kp [A,C] w g):=⟨W,by rw[xE8 N c l hs z];exact L,P,((D.mono sM).tr d).tr i⟩;clear L P i W R d T u K Z O t D s j z ak;go_wp2_with fail;have n:Kp [w.heap.size+1+1] g ((g.setCell ⟨w.heap.size+1+1,0,none⟩ (ϊ X.b)).setCell ⟨w.heap.size+1+1,1,none⟩ (.int .u64 X.s)):=(kF.sc _).sc _;have ag:=μ (μ ad 0 (ϊ X.b)) 1 (.int .u64 X.s);obtain⟨e1,e2,e3,e4⟩:=ac.out;refine bodyPost_ret (results_cell_row results115 _ _ (w.heap.size+1+1) 84 #[ϊ X.b,.int .u64 X.s] (0,0) _ rfl ag underlying84 rfl kR) rfl ?_;have au:=ζ q.hV;exact⟨rfl,⟨n.ho e1,⟨_,n.ho e2⟩,n.ho e3⟩,e4.trans n sO⟩
theorem kP4(V A N C:Nat)(l)(a:Int)(O:qE5)(k:∀ (n b:Nat) (s:Int) (t),O n b s t->b<=1000000/\0<=s)(d:V≠A)(i:C≠A)(m:V≠C)(c:N<=1000)(z:N*128<=l.length)(n:Nat)(h)(L)(fr)(v)(w)(p:Devl V A N C l a w)(y:RL O n w h L)(u:OkL n L)(r:news n L<=fr.length)(q:∀ b∈fr,b<N)(H:fr.length<=10000)(B:Slc w 3 1 v fr.length (qH5 fr))(D:∀ x∈(ψ n L fr).2.1,x.1<N/\x.2.length=128):
  Calls prog 115 #[τ V h,v] w λe f=>e=.returned (.agg #[.int .i64 (lhl (ψ n L fr).1).b,.int .u64 (lhl (ψ n L fr).1).s])/\Devl V A N C (laidAll l (ψ n L fr).2.1) (nk a (ψ n L fr).2.1.length) f/\Kp [A,C] w f:=by
 have I:=qZ4 n L fr;refine xP9 V A N C l a d i m c z h (lhl (ψ n L fr).1) fr (ψ n L fr).2.1 v w p B D oM rfl ?_;intro F g j E;refine (xG4 a V A N C g.heap.size F O k d c n h h L fr [] g E (RL.keep y j (Apt.nil _ _)) u r q sO).mono ?_;rintro e w1 ⟨rfl,G,o⟩;exact⟨rfl,⟨_,by simpa using G⟩,o⟩
theorem kP3(V A N C:Nat)(l)(a:Int)(g:V≠A)(d:C≠A)(h:V≠C)(f:N<=1000)(j:N*128<=l.length)(fr)(v)(w)(i:Devl V A N C l a w)(k:Slc w 3 1 v fr.length (qH5 fr)):
  Calls prog 115 #[τ V ⟨⟨#[]⟩,0,0,none⟩,v] w λe c=>e=.returned (.agg #[.int .i64 0,.int .u64 0])/\Devl V A N C l a c/\Kp [A,C] w c:=by
 refine xP9 V A N C l a g d h f j ⟨⟨#[]⟩,0,0,none⟩ ⟨⟨#[]⟩,0,0,none⟩ fr [] v w i k sM sM rfl ?_;intro F m n b;refine (zO8 V _ ⟨⟨#[]⟩,0,0,none⟩ (qR5 F) m rfl).mono ?_;rintro e w1 ⟨rfl,hK⟩;exact⟨rfl,⟨_,b.keep hK⟩,Wx.ofKp (hK.mono sM) b.low⟩
def Blk:(n:Nat)→Nat→Tn n→List Nat
 | 0,b,_=>[b]
 | n+1,b,t=>b::(η t).flatMap (fun m=>match m.ref with | some x=>Blk n x.1 m.sub | none=>[])
theorem Laid.move{N:Nat}{l l'}:∀ (n b:Nat) (s:Int) (t),Laid N l n b s t->(∀ k∈Blk n b t,qB3 l' k=qB3 l k)->Laid N l' n b s t
 | 0,b,s,t,h,hk=>by
  obtain⟨d,e,f,c,g⟩:=h;exact⟨d,e,f,(hk b (by simp[Blk])).trans c,g⟩
 | n+1,b,s,t,h,hk=>by
  obtain⟨d,e,f,u,c,g,p,q⟩:=h;refine⟨d,e,f,u,⟨c.1,λi o j=>?_⟩,g,(hk b (by simp[Blk])).trans p,q⟩;have m:=c.2 i o j;refine⟨m.1,?_⟩;have a:=m.2
  cases hx:(η t)[i].ref with
  | none=>rw[hx] at a;exact a
  | some x=>
   rw[hx] at a;refine⟨a.1,a.2.1,a.2.2.1,Laid.move n x.1 x.2 _ a.2.2.2 (λk r=>hk k ?_)⟩;simp only[Blk,mC,List.mem_flatMap];exact Or.inr ⟨(η t)[i],gM j,by rw[hx];exact r⟩
theorem qY1(l b)(i k n:Nat)(c:b.length=128)(g:n*128<=l.length)(d:i<n)(f:k≠i):qB3 (qD0 l i b) k=qB3 l k:=by
 refine List.ext_getElem? λj=>?_;simp only[qB3,qD0,List.getElem?_take,List.getElem?_drop];split
 .rename_i e;rw[aA,List.getElem?_append];split
  .rename_i a;rw[List.getElem?_take];simp only[lK] at a;rw[if_pos oM]
  .rename_i a;simp only[lK] at a |-;rw[List.getElem?_append,if_neg oM,List.getElem?_drop]
   congr 1
   omega
 .rfl
theorem qY2(l b)(i n:Nat)(a:b.length=128)(d:n*128<=l.length)(c:i<n):qB3 (qD0 l i b) i=b:=by
 exact xY0 l i b a oM
theorem zX0(n k:Nat)(ws):∀ (l),n*128<=l.length->(∀ x∈ws,x.1<n/\x.2.length=128)->k ∉ ws.map Prod.fst->qB3 (laidAll l ws) k=qB3 l k:=by
 induction ws with
 | nil=>intro l _ _ _;rfl
 | cons a ws ih=>
  intro l d e c;simp only[List.map_cons,mC,not_or] at c;have b:=e a sM;refine (ih (qD0 l a.1 a.2) (qU7 l a.2 a.1 n b.2 d b.1) (λx f=>e x (by simp[f])) c.2).trans ?_;exact qY1 l a.2 a.1 k n b.2 d b.1 c.1
theorem xX8(n:Nat)(ws)(x:Nat × List UInt8):∀ (l),n*128<=l.length->(∀ x∈ws,x.1<n/\x.2.length=128)->(ws.map Prod.fst).Nodup->x∈ws->qB3 (laidAll l ws) x.1=x.2:=by
 induction ws with
 | nil=>intro l _ _ _ h;cases h
 | cons a ws ih=>
  intro l g d c e;simp only[List.map_cons,List.nodup_cons] at c;have b:=d a sM;have i:=qU7 l a.2 a.1 n b.2 g b.1;rcases List.mem_cons.1 e with rfl|e
  .exact (zX0 n x.1 ws (qD0 l x.1 x.2) i (λy f=>d y (by simp[f])) c.1).trans (qY2 l x.2 x.1 n b.2 g b.1)
  .exact ih (qD0 l a.1 a.2) i (λy f=>d y (by simp[f])) c.2 e
def qJ8(N:Nat)(l:List UInt8):(n:Nat)→Lnk (Tn n)→Prop
 | 0,L=>∀ x,L.ref=some x→Laid N l 0 x.1 x.2 L.sub
 | n+1,L=>(∀ x,L.ref=some x→Laid N l (n+1) x.1 x.2 L.sub)∧(L.ref=none→∀ m∈η L.sub,qJ8 N l n m)
def qI4:(n:Nat)→Lnk (Tn n)→List Nat
 | 0,L=>match L.ref with | some x=>Blk 0 x.1 L.sub | none=>[]
 | n+1,L=>match L.ref with | some x=>Blk (n+1) x.1 L.sub | none=>(η L.sub).flatMap (qI4 n)
def zU7(N:Nat)(l l':List UInt8)(n:Nat):Prop:=∀ (L:Lnk (Tn n)) (fr:List Nat),qJ8 N l n L→OkL n L→n<6→(∀ b∈fr,2≤b∧b<N)→news n L≤fr.length→(∀ x∈(ψ n L fr).2.1,qB3 l' x.1=x.2)→(∀ k∈qI4 n L,qB3 l' k=qB3 l k)→
 ∃ x,(ψ n L fr).1.ref=some x∧Laid N l' n x.1 x.2 (ψ n L fr).1.sub
theorem xF3(N:Nat)(l l')(n:Nat)(i:zU7 N l l' n)(j:n<6):∀ (ls) (c),(∀ m∈ls,qJ8 N l n m/\OkL n m)->(∀ b∈c,2<=b/\b<N)->meas (news n) ls<=c.length->(∀ x∈(qB2 (ψ n) ls c).2.1,qB3 l' x.1=x.2)->(∀ k∈ls.flatMap (qI4 n),qB3 l' k=qB3 l k)->
  ∀ m∈(qB2 (ψ n) ls c).1,∃ x,m.ref=some x/\Laid N l' n x.1 x.2 m.sub
 | [],_,_,_,_,_,_=>by intro m f;cases f
 | a::ls,c,h,hf,f,hx,hk=>by
  rw[qC1] at f;intro m g;simp only[qB2,mC] at g;simp only[qB2,List.mem_append] at hx;rcases g with rfl|g
  .exact i a c (h a sM).1 (h a sM).2 j hf oM (λx d=>hx x (Or.inl d)) (λk d=>hk k (by simp only[fC,List.mem_append];exact Or.inl d))
  .have e:=qO5 n a c;exact xF3 N l l' n i j ls _ (λm f=>h m (by simp[f])) (λb hb=>by rw[e] at hb;exact hf b (mD hb)) (by rw[e,lD];omega) (λx d=>hx x (Or.inr d)) (λk d=>hk k (by simp only[fC,List.mem_append];exact Or.inr d)) m g
theorem kD9{n:Nat}{m}(h:OkL n m):m.key.size<=8:=by
 cases n with
 | zero=>exact h.1
 | succ n=>exact h.1
theorem xF9(n:Nat):∀ (ls:List (Lnk (Tn n))) (c:List Nat),(∀ m∈ls,m.key.size<=8)->∀ m∈(qB2 (ψ n) ls c).1,m.key.size<=8
 | [],_,_=>by intro m b;cases b
 | a::ls,c,h=>by
  intro m b;simp only[qB2,mC] at b;rcases b with rfl|b
  .rw[xG1];exact h a sM
  .exact xF9 n ls _ (λm b=>h m (by simp[b])) m b
theorem Laid.leaf{N b:Nat}{l}{t}(a:2<=b/\b<N)(c:qB3 l b=toB (qA5 0 (prs t) []))(d:(∀ p∈prs t,qC6 p)/\2+meas ρ (prs t)<=128/\(prs t).length<=126):Laid N l 0 b (fnv (qA5 0 (prs t) [])) t:=⟨a.1,a.2,Eq.refl _,c,d⟩
theorem Laid.branch{N b n:Nat}{l}{t}(hs)(a:2<=b/\b<N)(c:n+1<6)(d:Both (RLof (λ_ _=>False) (Laid N l n)) hs (η t))(e:qB3 l b=toB (qA5 ((n+1:Nat):Int) [] hs))(f:(∀ h∈hs,h.key.size<=8)/\2+meas qA0 hs<=128/\hs.length<=126):Laid N l (n+1) b (fnv (qA5 ((n+1:Nat):Int) [] hs)) t:=⟨a.1,a.2,c,hs,d,Eq.refl _,e,f⟩
theorem jY7{X:Type}(m:Lnk X)(x:Nat × Int)(h:m.ref=some x):(lhl m).b=(x.1:Int)/\(lhl m).s=x.2:=by
 simp only[lhl,h,Option.getD_some,and_self]
theorem xF4(N:Nat)(l l'):∀ n,zU7 N l l' n
 | 0=>by
  intro L a q v _ j u d o
  cases hr:L.ref with
  | some x=>
   have w:L.ref.isSome:=by rw[hr];rfl
   have e:ψ 0 L a=(L,[],a):=by simp only[ψ,if_pos w]
   rw[e];refine⟨x,hr,Laid.move 0 x.1 x.2 L.sub (q x hr) (λk c=>o k ?_)⟩;simp only[qI4,hr];exact c
  | none=>
   have h:¬L.ref.isSome=true:=by rw[hr];simp
   have B:news 0 L=1:=by simp only[news,if_neg h]
   cases a with
   | nil=>rw[B] at u;simp at u
   | cons b a=>
    have e:ψ 0 L (b::a)=(⟨L.key,some (b,fnv (qA5 0 (prs L.sub) [])),L.sub⟩,[(b,toB (qA5 0 (prs L.sub) []))],a):=by simp only[ψ,if_neg h,List.headD_cons,List.tail_cons]
    rw[e] at d |-;obtain⟨H,r,y⟩:=v.2 hr;have g:=d (b,toB (qA5 0 (prs L.sub) [])) (List.mem_singleton.2 rfl);have f:=Laid.leaf (j b sM) g ⟨H,r,y⟩;generalize fnv (qA5 0 (prs L.sub) [])=s at f |-;exact⟨(b,s),rfl,f⟩
 | n+1=>by
  intro L a q v O j u d o
  cases hr:L.ref with
  | some x=>
   have w:L.ref.isSome:=by rw[hr];rfl
   have e:ψ (n+1) L a=(L,[],a):=by simp only[ψ,if_pos w]
   rw[e];refine⟨x,hr,Laid.move (n+1) x.1 x.2 L.sub (q.1 x hr) (λk c=>o k ?_)⟩;simp only[qI4,hr];exact c
  | none=>
   have h:¬L.ref.isSome=true:=by rw[hr];simp
   have B:news (n+1) L=1+meas (news n) (η L.sub):=by simp only[news,if_neg h]
   have t:=qQ5 (ψ n) (news n) (η L.sub) a (λl _ a=>qO5 n l a);obtain⟨H,r,y,Q⟩:=v.2 hr
   cases hfr:(qB2 (ψ n) (η L.sub) a).2.2 with
   | nil=>
    have C:=congrArg List.length t;rw[hfr,lD] at C;simp at C;omega
   | cons b fr'=>
    have e:ψ (n+1) L a=(⟨L.key,some (b,fnv (qA5 ((n+1:Nat):Int) [] ((qB2 (ψ n) (η L.sub) a).1.map lhl))),(qB2 (ψ n) (η L.sub) a).1⟩,(qB2 (ψ n) (η L.sub) a).2.1++[(b,toB (qA5 ((n+1:Nat):Int) [] ((qB2 (ψ n) (η L.sub) a).1.map lhl)))],fr'):=by
     simp only[ψ,if_neg h,hfr,List.headD_cons,List.tail_cons]
    rw[e] at d |-;have M:b∈a:=by rw[hfr] at t;exact mD (t ▸ List.mem_cons_self)
    have D:=xF3 N l l' n (xF4 N l l' n) oM (η L.sub) a (λm c=>⟨q.2 hr m c,r m c⟩) j oM (λx hh=>d x (List.mem_append_left _ hh)) (λk hh=>o k (by simp only[qI4,hr];exact hh));have E:=xF9 n (η L.sub) a (λm c=>kD9 (r m c));have G:=zF6 n (η L.sub) a;have F:=zO1 (ψ n) (η L.sub) a;have g:=d (b,toB (qA5 ((n+1:Nat):Int) [] ((qB2 (ψ n) (η L.sub) a).1.map lhl))) (List.mem_append_right _ (List.mem_singleton.2 rfl));generalize qB2 (ψ n) (η L.sub) a=R at D E G F g |-;have f:Laid N l' (n+1) b (fnv (qA5 ((n+1:Nat):Int) [] (R.1.map lhl))) R.1:=by
     refine Laid.branch (R.1.map lhl) (j b M) O ⟨by rw[List.length_map];rfl,λi S K=>?_⟩ g ⟨?_,by rw[G];exact y,by rw[List.length_map,F];exact Q⟩
     .rw[List.getElem_map];obtain⟨x,z,I⟩:=D _ (gM K);refine⟨rfl,?_⟩;have J:=z;rw[J];have A:=jY7 _ x z;exact⟨A.1,A.2,rfl,I⟩
     .intro p P;obtain⟨m,c,rfl⟩:=List.mem_map.1 P;exact E m c
    clear d g;generalize fnv (qA5 ((n+1:Nat):Int) [] (R.1.map lhl))=s at f |-;exact⟨(b,s),rfl,f⟩
theorem xF8{X:Type}(f:Lnk X->List Nat->Lnk X × List (Nat × List UInt8) × List Nat)(g:Lnk X->Nat):∀ (ls:List (Lnk X)) (a),(∀ l∈ls,∀ a:List Nat,g l<=a.length->(f l a).2.1.map Prod.fst=a.take (g l)/\(f l a).2.2=a.drop (g l))->meas g ls<=a.length->(qB2 f ls a).2.1.map Prod.fst=a.take (meas g ls)
 | [],a,_,_=>by simp[qB2,qD6]
 | l::ls,a,h,hm=>by
  rw[qC1] at hm |-;obtain⟨c,b⟩:=h l sM a oM;simp only[qB2,List.map_append];rw[xF8 f g ls _ (λx d=>h x (by simp[d])) (by rw[b,lD];omega),c,b,List.take_add]
theorem zO5:∀ (n:Nat) (l) (a),news n l<=a.length->(ψ n l a).2.1.map Prod.fst=a.take (news n l)
 | 0,l,a,h=>by
  by_cases c:l.ref.isSome=true
  .simp only[ψ,news,if_pos c,List.map_nil,List.take_zero]
  .simp only[ψ,news,if_neg c] at h |-
   cases a with
   | nil=>simp at h
   | cons b a=>simp
 | n+1,l,a,h=>by
  by_cases c:l.ref.isSome=true
  .simp only[ψ,news,if_pos c,List.map_nil,List.take_zero]
  .simp only[ψ,news,if_neg c] at h |-;have d:=xF8 (ψ n) (news n) (η l.sub) a (λl _ a g=>⟨zO5 n l a g,qO5 n l a⟩) (by have:meas (λm=>news n m) (η l.sub)=meas (news n) (η l.sub):=rfl;omega);have f:=qQ5 (ψ n) (news n) (η l.sub) a (λl _ a=>qO5 n l a);rw[List.map_append,d,f];simp only[List.map_cons,List.map_nil];have e:meas (λm=>news n m) (η l.sub)=meas (news n) (η l.sub):=rfl;rw[e] at h |-;generalize meas (news n) (η l.sub)=k at h |-;rw[Nat.add_comm 1 k,tA oM,dG oM];rfl
theorem zO6:∀ (n:Nat) (l) (c),OkL n l->∀ x∈(ψ n l c).2.1,x.2.length=128
 | 0,l,c,h,x,b=>by
  by_cases d:l.ref.isSome=true
  .simp[ψ,if_pos d] at b
  .simp only[ψ,if_neg d,List.mem_singleton] at b;obtain⟨j,e,k⟩:=h.2 (by simpa using d);rw[b];simp only[qI3];exact qR6 0 _ [] (by simpa [qD6] using e)
 | n+1,l,c,h,x,b=>by
  by_cases d:l.ref.isSome=true
  .simp[ψ,if_pos d] at b
  .simp only[ψ,if_neg d,List.mem_append,List.mem_singleton] at b;obtain⟨j,e,k,o⟩:=h.2 (by simpa using d);rcases b with b|b
   .have g:∀ (ls:List (Lnk (Tn n))) (c:List Nat),(∀ m∈ls,OkL n m)->∀ x∈(qB2 (ψ n) ls c).2.1,x.2.length=128:=by
     intro ls
     induction ls with
     | nil=>intro c _ x b;simp[qB2] at b
     | cons a ls ih=>
      intro c f x b;simp only[qB2,List.mem_append] at b;rcases b with b|b
      .exact zO6 n a c (f a sM) x b
      .exact ih _ (λm i=>f m (by simp[i])) x b
    exact g _ c e x b
   .rw[b];simp only[qI3];exact qR6 _ [] _ (by rw[zF6,qD6];omega)
theorem zO4:∀ (n:Nat) (l) (b),cont n (ψ n l b).1.sub=cont n l.sub
 | 0,l,b=>by
  by_cases c:l.ref.isSome=true
  .simp only[ψ,if_pos c]
  .simp only[ψ,if_neg c]
 | n+1,l,b=>by
  by_cases c:l.ref.isSome=true
  .simp only[ψ,if_pos c]
  .simp only[ψ,if_neg c];have d:∀ (ls) (b),(qB2 (ψ n) ls b).1.flatMap (λm=>cont n m.sub)=ls.flatMap (λm=>cont n m.sub):=by
    intro ls
    induction ls with
    | nil=>intro b;rfl
    | cons a ls ih=>
     intro b;simp only[qB2,fC,ih,zO4 n a b]
   exact d _ b
open Go.Maps (Keyed)
open Go.ChangeMaps
def qT4(k:Nat):Lit:=.int .i64 (k:Int)
theorem xE0{k:Nat}(h:k<=1000000):keyOf prog 3 (.int .i64 (k:Int))=some (qT4 k):=
 Maps.keyOf_int_mk underlying3 (by simp[Lit.wf,IntKind.min,IntKind.max,IntKind.signed,IntKind.bits];omega)
theorem zN6:Keyed prog 3:=Maps.int_keyed underlying3
theorem jV0(k:Nat):WideAt.IsKeyLit (qT4 k):=by simp[WideAt.IsKeyLit,qT4]
theorem jV1{a b:Nat}(h:a≠b):qT4 a≠qT4 b:=by
 intro e;simp only[qT4,Lit.int.injEq,true_and] at e;omega
def BS(w:World)(M c:Nat)(ks:List Nat):Prop:=∃ n D,w.ownsMap prog 3 (unitElem (H:=Unit)) M n D∧n≤c∧Maps.size D=ks.length∧∀ k:Nat,Maps.has D (qT4 k)=decide (k∈ks)
theorem BS.made(w:World):BS (w.alloc (.map #[] 0)) w.heap.size 0 []:=⟨0,.map [],World.ownsMap_made w _ _ _,lR,rfl,λk=>by simp[Maps.has]⟩
theorem BS.kp{S}{w w'}{M c:Nat}{ks}(h:BS w M c ks)(hK:Kp S w w')(a:M ∉ S):BS w' M c ks:=by
 obtain⟨n,D,⟨es,cl,hb,hf⟩,h2⟩:=h;exact⟨n,D,⟨es,cl,hK.heap hb a,hf⟩,h2⟩
theorem BS.len{w}{M c:Nat}{ks}(h:BS w M c ks)(ty):(Builtin.len_ #[249] ty #[.map (some M)]).run prog w=.ok (.int .i64 (ks.length:Int)) w:=by
 obtain⟨n,D,a,d,b,e⟩:=h;rw[<-b];exact World.ownsMap.len a underlying249 ty
theorem BS.store{w}{M c b:Nat}{ks}(h:BS w M c ks)(o:b<=1000000)(q:c<=1000000):
  ∃ d,(Instr.mapUpdate 249 (.map (some M)) (.int .i64 (b:Int)) (.agg #[])).run prog w=.ok () d/\BS d M (c+1) (if b∈ks then ks else b::ks)/\Kp [M] w d:=by
 obtain⟨n,D,e,p,m,g⟩:=h;obtain⟨d,i,j,l⟩:=World.ownsMap.store e zN6 underlying249 (by simp[maxLen];omega) (xE0 o) (unitElem_mk (H:=Unit));refine⟨d,i,⟨n+1,_,j,oM,?_,λk=>?_⟩,Kp.turned l⟩
 .rw[Maps.size_put (e.tidy zN6),g b,m];by_cases a:b∈ks<;>simp[a]
 .by_cases f:k=b
  .rw[f,Maps.has_put_same e.isMap (jV0 b)];by_cases a:b∈ks<;>simp[a]
  .rw[Maps.has_put_other (jV1 f),g k];by_cases a:b∈ks<;>simp[a,f]
theorem BS.look{w}{M c k:Nat}{ks}(h:BS w M c ks)(f:k<=1000000):
  (Instr.lookup 249 (.map (some M)) (.int .i64 (k:Int)) true).run prog w=.ok (.tuple #[.agg #[],.bool (decide (k∈ks))]) w:=by
 obtain⟨n,D,d,g,i,e⟩:=h;obtain⟨v,ps,a,b⟩:=World.ownsMap.look_ok d zN6 underlying249 (z:=.agg #[]) kR (unitElem_mk (H:=Unit)) (xE0 f);obtain⟨rfl,_⟩:=unitElem_inv b;rw[a,e]
def zF1(ks:List Nat)(b:Nat):List Nat:=if b∈ks then ks else b::ks
theorem xY9(M c b:Nat)(ks)(h)(w)(u:BS w M c ks)(A:h.p=none)(v:h.b=(b:Int))(x:b<=1000000)(y:c<=1000000)(m:ks.length<=1000000):
  Calls prog 235 #[.map (some M),qC0 h] w λe q=>e=.returned (.bool (decide (b ∉ ks)))/\BS q M (c+1) (zF1 ks b)/\Kp [M] w q:=by
 have B:h.ptr=none:=by simp[HL.ptr,A]
 obtain⟨n,D,⟨es,cl,hmb,hf⟩,h2⟩:=u;have F:=ζ hmb;have t:Hid (BS w M c ks):=⟨n,D,⟨es,cl,hmb,hf⟩,h2⟩;rw[qC0,B,v];obtain⟨K,p,f,d,H⟩:=qF7 w (.cells #[.string h.key,ϊ (b:Int),.int .u64 h.s,.pointer none] 87);have g:=t.out.kp d sM;have o:=g.len 3;obtain⟨w1,G,i,l⟩:=g.store x y;have z:=i.len 3;clear hmb hf h2;go_enter func235,ntmps235;go_wp2_with fail;rw[<-p,o];have E:=ζ f;have C:=ϻ f 1;have HL:=zh m;obtain⟨I,j⟩:=eX ks.length;obtain⟨J,k⟩:=eX ((if b∈ks then ks else b::ks).length);rw[<-j];rw[<-k] at z;have s:=zh (n2 j k);have r:Hid (BS w1 M (c+1) (zF1 ks b)/\Kp [M] w w1):=⟨i,(d.mono sM).tr l⟩;clear i l d f o g m j k p;go_wp2;go_ret;refine⟨?_,r⟩;have h:=s.out;by_cases a:b∈ks
 .simp only[a,if_true] at h;simp[a,h.1,h.2]
 .simp only[a,if_false,lC] at h;simp only[a,not_false_eq_true,decide_true];rw[h.1,h.2];simp
theorem BS.mono{w}{M c a:Nat}{ks}(h:BS w M c ks)(f:c<=a):BS w M a ks:=by
 obtain⟨n,D,b,e,d⟩:=h;exact⟨n,D,b,oM,d⟩
theorem BS.card{w}{M c:Nat}{ks}(h:BS w M c ks):ks.length<=c:=by
 obtain⟨n,D,a,b,d,_⟩:=h;have:=a.size_le;omega
theorem BS.at{w}{M c:Nat}{ks}(h:BS w M c ks):∃ b a,w.heap[M]?=some (.map b a):=by
 obtain⟨n,D,⟨b,a,hb,hf⟩,h2⟩:=h;exact⟨b,a,hb⟩
def qG3{X:Type}(f:X→List Nat→List Nat)(ks:List Nat)(m:Lnk X):List Nat:=match m.ref with
 | none=>f m.sub ks
 | some x=>if x.1∈ks then ks else f m.sub (x.1::ks)
def qG0:(n:Nat)→Tn n→List Nat→List Nat
 | 0,_,ks=>ks
 | n+1,t,ks=>(η t).foldl (qG3 (qG0 n)) ks
theorem xY8(M:Nat)(h)(q:Nat)(w)(a:h.p=some q):
  Calls prog 235 #[.map (some M),qC0 h] w λe c=>e=.returned (.bool true)/\Kp [] w c:=by
 have b:h.ptr=some ⟨q,0,none⟩:=by simp[HL.ptr,a]
 rw[qC0,b];go_enter func235,ntmps235;go_wp2;go_ret;exact⟨rfl,kF.alloc _⟩
theorem zX5{E:SEnv}(p:∀ (n b:Nat) (s:Int) (t:Tn n),E.O n b s t->b<=1000000)(n M c:Nat)(ks:List Nat)(h:HL)(m:Lnk (Tn n))(w:World)(g:BS w M c ks)(j:RL E.O n w h m)(r:c<=1000000):
  Calls prog 235 #[.map (some M),qC0 h] w λe a=>∃ go ks1,e=.returned (.bool go)/\BS a M (c+1) ks1/\Kp [M] w a/\(∀ f:Tn n->List Nat->List Nat,qG3 f ks m=if go then f m.sub ks1 else ks1):=by
 cases hx:m.ref with
 | none=>
  obtain⟨v,q,i,y⟩:=zP8 j hx;refine (xY8 M h q w i).mono ?_;rintro e a ⟨rfl,hK⟩;exact⟨true,ks,rfl,(g.kp hK sM).mono oM,hK.mono sM,λf=>by simp[qG3,hx]⟩
 | some x=>
  obtain⟨i,u⟩:=zQ8 j (by rw[hx];rfl);have d:=j.2;rw[hx] at d;refine (xY9 M c x.1 ks h w g i d.1 (p _ _ _ _ d.2.2.2) r (by have:=g.card;omega)).mono ?_;rintro e a ⟨rfl,l,o⟩;refine⟨_,_,rfl,l,o,λf=>?_⟩;by_cases k:x.1∈ks
  .simp[qG3,hx,zF1,k]
  .simp[qG3,hx,zF1,k]
theorem xX6(E:SEnv)(t:Tn 0)(q M c:Nat)(ks:List Nat)(r:HL)(w:World)(f:E.Dev w)(a:RN E.O 0 w q t)(d:BS w M c ks):
  Calls prog 236 #[.map (some M),τ E.V r,.pointer (some ⟨q,0,none⟩)] w λe h=>e=.returned (.tuple #[])/\Kp [] w h:=by
 obtain⟨j,a,g⟩:=a;have i:=ζ a;have b:=ξ a 2;simp only[ι,zG,zH,zI] at b;clear a g d f;rw[τ];go_enter func236,ntmps236;go_wp2_with fail;refine wp_loop_rounds 1 ?_;rw[rounds_succ];go_wp2
 go_end0
 exact⟨rfl,kF.alloc _⟩
def zB9(E:SEnv)(n:Nat):Prop:=∀ (t:Tn n) (q M c:Nat) (ks:List Nat) (r:HL) (w:World),E.Dev w→RN E.O n w q t→BS w M c ks→c+qB6 n t≤1000000→
 Calls prog 236 #[.map (some M),τ E.V r,.pointer (some ⟨q,0,none⟩)] w fun e w'=>e=.returned (.tuple #[])∧BS w' M (c+(qB6 n t-1)) (qG0 n t ks)∧E.Dev w'∧Kp (M::E.S) w w'
theorem xX5(E):zB9 E 0:=λt q M c ks r w b d a f=>by
 refine (xX6 E t q M c ks r w b d a).mono ?_;rintro e g ⟨rfl,hK⟩;exact⟨rfl,(a.kp hK sM).mono oM,(Env.To.of0 b hK).dev,hK.mono sM⟩
theorem qQ6(E:SEnv){w:World}{M d:Nat}{ks:List Nat}(g:E.Dev w)(f:BS w M d ks){k:Nat}{c:Array Value}{t:TypeId}{e:Nat × Nat}(h:w.heap[k]?=some (.cells c t e))(i:t ∉ qL4):k ∉ M::E.S:=λa=>by
 rcases List.mem_cons.1 a with rfl|a
 .obtain⟨l,j,b⟩:=f.at;rw[h] at b;cases b
 .exact E.nin g h i a
theorem zC7(E:SEnv){w:World}{M a:Nat}{ks:List Nat}(d:E.Dev w)(b:BS w M a ks):Apt w (M::E.S) qF5:=λk f c t h e g=>qQ6 E d b e ((by decide:∀ t∈qF5,t ∉ qL4) t g) f
theorem xX4(E)(hO:∀ (n b:Nat) (s:Int) (t),E.O n b s t->b<=1000000)(n:Nat)(IH:zB9 E n):zB9 E (n+1):=by
 intro t q M c ks r w hd z hM hc;obtain⟨vl,z,d,au,an⟩:=z;obtain⟨lb,lc,rfl⟩:=qO8 au;obtain⟨u,ae⟩:=eX d.length;obtain⟨v,ao⟩:∃ v:Int,v=((n+1:Nat):Int):=⟨_,rfl⟩;rw[<-ae,<-ao] at z;have bq:=zh au;have Q:=zh an;have H:=zh (n2 ae ao);have V:=zh z;have F:=zh hd;have I:=zh hM;have b4:=ζ z;have q2:=ξ z 2;simp only[ι,zG,zH,zI] at q2;have bv:=qK1 (λl:Lnk (Tn n)=>qB6 n l.sub) (η t) (λx _=>by cases n<;>simp[qB6]);have bg:qB6 (n+1) t=1+meas (λl:Lnk (Tn n)=>qB6 n l.sub) (η t):=rfl;have bz:u<=1000000:=by rw[ae,an.1];omega
 clear au an ae ao z hd hM bv;rw[τ];go_enter func236,ntmps236;go_wp2_with fail;have ba:=υ w (.cells (ϟ E.V r) 89);have X:Kp [] w (w.alloc (.cells (ϟ E.V r) 89)):=kF.alloc _
 go_loopw [13] (λi wr=>∃ j:Nat,j<=u/\i=.int .i64 j/\w.heap.size<wr.heap.size/\Hid (BS wr M (c+meas (λl:Lnk (Tn n)=>qB6 n l.sub) ((η t).take j)) (((η t).take j).foldl (qG3 (qG0 n)) ks))/\Hid (E.Dev wr)/\Hid (Kp (M::E.S) w wr)/\Hid (Ϙ wr w.heap.size (.cells (ϟ E.V r) 89))) (λi _=>u-(intOf i).toNat)
 case atStart=>exact⟨0,zL _,rfl,sM,by show BS _ _ _ _;simpa [qD6] using I.kp X sM,(Env.To.of0 F X).dev,X.mono sM,ba⟩
 case round=>
  obtain⟨j,hj,rfl,b7,ax,av,G,ay⟩:=hrel;clear q2 ba X;have ac:=zC7 E F I.out;have a9:=G.out.heap V (qQ6 E F I V dC);by_cases b0:j<u
  .have ad:j<d.length:=by have:=H.out;omega
   have P:j<(η t).length:=by rw[<-Q.out.1];exact ad
   obtain⟨gb,C,bx,cur,fq,hv,bs,ar,bc⟩:=bq.out.link oM;obtain⟨c0,c1,c2,c3⟩:=bc j ad;simp only[vJ,true_and] at hv;obtain⟨rfl,rfl⟩:=hv;have B:=G.out.heap ar (qQ6 E F I ar dC);have a0:=ξ B (C+j*4);have a1:=ξ B (C+j*4+1);have a2:=ξ B (C+j*4+2);have a3:=ξ B (C+j*4+3);rw[c0] at a0;rw[c1] at a1;rw[c2] at a2;rw[c3] at a3;have bt:=ζ B;have be:(j:Int)<(u:Int):=oM
   have bo:=zh (RL.keep (Q.2 j ad P) G ac);have ap:=qL6 (λl:Lnk (Tn n)=>qB6 n l.sub) (η t) j P;have b1:=zA2 (λl:Lnk (Tn n)=>qB6 n l.sub) (η t) j P;have b2:1<=qB6 n (η t)[j].sub:=by cases n<;>simp[qB6]
   have bd:((η t).take (j+1)).foldl (qG3 (qG0 n)) ks=qG3 (qG0 n) (((η t).take j).foldl (qG3 (qG0 n)) ks) (η t)[j]:=by rw[tA P,List.foldl_append];rfl
   have ag:=zh bd;clear bc bs ar c0 c1 c2 c3 bd;go_wp2_with fail;obtain⟨w1,bk,ak,y,b5⟩:=qF7 wr (.cells #[.string d[j].key,ϊ d[j].b,.int .u64 d[j].s,.pointer d[j].ptr] 87);rw[<-bk];clear bk a0 a1 a2 a3 B bt be;have Z:=ax.out.kp y sM;have a4:=(Env.To.of0 av y).dev;refine (show Calls _ _ _ _ _ from zX5 hO n M _ _ d[j] (η t)[j] w1 Z (RL.keep bo y (Apt.nil _ _)) oM).mono ?_;rintro e D ⟨go,bl,rfl,a7,A,bj⟩;have bh:OffD w1 [M]:=λk hk c t J e=>by
    obtain⟨es,cl,m⟩:=Z.at;rw[mS hk,m] at e;cases e
   have a5:=E.keepX _ _ _ a4 A bh;have Y:=(G.tr y).tr A;have aa:=Y.heap V (qQ6 E F I V dC);have b3:=ζ aa;have q0:=ξ aa 0;simp only[ι,zG,zH,zI] at q0;have aq:∀ k c t J,Ϙ w1 k (.cells c t J)->k ∉ [M]:=λk c t J e hm=>by
    obtain⟨es,cl,m⟩:=Z.at;rw[<-mS hm,e] at m;cases m
   have bb:=A.heap (y.hp ay) (aq _ _ _ _ (y.hp ay));have az:=A.heap ak (aq _ _ _ _ ak);have b6:=A.size;have ai:=zh bj;have U:=zh a7;have R:=zh a5;have ah:=zh Y;have aj:=zh bb;have bp:=zh (RL.keep (Q.2 j ad P) Y ac);have bm:=zh az;have bn:=zh aa;clear bj a7 a5 Y aa bb az aq bh y A Z a4 ak ac a9
   cases go with
   | false=>
    go_wp2;exact⟨⟨j+1,oM,by go_num,oM,by show BS _ _ _ _;rw[ag.out,ai.out,ap];exact U.mono oM,R,ah,aj⟩,by simp[intOf];omega⟩
   | true=>
    by_cases bw:n=0
    .have bu:¬(1:Int)<v:=by have:=H.out;omega
     go_wp2;refine⟨⟨j+1,oM,by go_num,oM,?_,R,ah,aj⟩,by simp[intOf];omega⟩;show BS _ _ _ _;rw[ag.out,ai.out,ap];subst bw;exact U.mono oM
    .have bu:(1:Int)<v:=by have:=H.out;omega
     go_wp2_with fail;have g:Ϙ D.drew w.heap.size (.cells (ϟ E.V r) 89)/\Ϙ D.drew wr.heap.size (.cells #[.string d[j].key,ϊ d[j].b,.int .u64 d[j].s,.pointer d[j].ptr] 87)/\Ϙ D.drew q (ι v (.slice none 0 0) (.slice (some ⟨gb,C,none⟩) u lc)):=⟨aj,bm,bn⟩;refine wp_region_held_drew (S:=λW=>Ϙ W w.heap.size (.cells (ϟ E.V r) 89)/\Ϙ W wr.heap.size (.cells #[.string d[j].key,ϊ d[j].b,.int .u64 d[j].s,.pointer d[j].ptr] 87)/\Ϙ W q (ι v (.slice none 0 0) (.slice (some ⟨gb,C,none⟩) u lc))) kR g (λ_=>?_);refine zU 0 (.map (some M)) g ?_;refine zV 1 (.agg (ϟ E.V r)) rfl (λW f=>by have a:=ξ f.1;clear f;go_simp) g ?_;refine zV 2 (.agg (ϟ E.V r)) rfl (λW f=>by have a:=ξ f.1;clear f;go_simp) g ?_;refine zV 3 (.agg #[.string d[j].key,ϊ d[j].b,.int .u64 d[j].s,.pointer d[j].ptr]) rfl (λW f=>by have a:=ξ f.2.1;clear f;go_simp) g ?_;refine zP 4 q 0 g ?_;refine zV 5 (ϖ q) rfl (λW f=>by have c:=ζ f.2.2;clear f;go_simp) g ?_;refine zP 6 q 0 g ?_;refine zV 7 (ϊ v) rfl (λW f=>by have a:=ξ f.2.2 0;simp only[ι,zG,zH,zI] at a;clear f;go_simp) g ?_;refine zq 8 λK hK=>?_;go_simp;have N:Kp [] D D.drew:=kF.drew;have O:=Env.To.of0 R N;refine (show Calls _ _ _ _ _ from qJ4 E.toEnv n d[j] r (η t)[j] v D.drew O.dev (RL.keep bp N (Apt.nil _ _)) (by have:=H.out;omega)).mono ?_;rintro e w3 ⟨q3,rfl,bi,p⟩;have al:BS w3 M _ bl:=(U.kp N sM).kp p.kp (by obtain⟨es,cl,m⟩:=U.out.at;exact E.ninM R m);have o:=And.intro (E.stay O.dev p g.1 dC) (And.intro (E.stay O.dev p g.2.1 dC) (E.stay O.dev p g.2.2 dC));refine zk hK o ?_
     refine zq 9 λK hK=>?_;go_simp;refine (show Calls _ _ _ _ _ from IH (η t)[j].sub q3 M _ bl r w3 p.dev bi al oM).mono ?_;rintro e w4 ⟨rfl,a8,a6,L⟩;have af:∀ {k:Nat} {c:Array Value} {tt:TypeId} {J:Nat × Nat},Ϙ w3 k (.cells c tt J)->tt ∉ qL4->k ∉ M::E.S:=λh1 m=>qQ6 E p.dev al h1 m;have ab:=And.intro (L.heap o.1 (af o.1 dC)) (And.intro (L.heap o.2.1 (af o.2.1 dC)) (L.heap o.2.2 (af o.2.2 dC)));refine hK.out _ _ ab (λ_=>?_);refine zd ?_
     try simp only[zZ]
     have T:=zh (n4 a8 a6 (((ah.tr N).trans p.kp (λi hi _=>mM _ hi)).trans L (λi hi _=>hi)) (ζ ab.1));have br:=zh ab.1;clear a8 a6 L ab o al p bi O N g af;go_wp2;refine⟨⟨j+1,oM,by go_num,T.2.2.2,?_,T.2.1,T.2.2.1,br⟩,by simp[intOf];omega⟩;show BS _ _ _ _;rw[ag.out,ai.out,ap];exact T.1.mono oM
  .have be:¬(j:Int)<(u:Int):=oM
   have bf:(η t).take j=η t:=tL (by rw[<-Q.out.1];have:=H.out;omega);have am:=ax.out;rw[bf] at am;have aw:Hid (BS wr M (c+(qB6 (n+1) t-1)) (qG0 (n+1) t ks)):=am.mono (by rw[bg];omega);clear am bf ac a9;go_wp2
   go_end0
   exact⟨rfl,by first | exact aw | (have h:=aw.out;rw[bg,Nat.add_sub_cancel_left] at h;exact h),av,G⟩
theorem zW9(E:SEnv)(a:∀ (n b:Nat) (s:Int) (t:Tn n),E.O n b s t->b<=1000000):∀ n,zB9 E n
 | 0=>xX5 E
 | n+1=>xX4 E a n (zW9 E a n)
def qB9(N:Nat)(ks:List Nat):List Nat:=(List.range' 2 (N-2)).filter (fun k=>decide (k ∉ ks))
theorem jP5(ks)(i:Nat):qB9 (2+(i+1)) ks=qB9 (2+i) ks++(if 2+i∈ks then [] else [2+i]):=by
 unfold qB9;rw[show 2+(i+1)-2=i+1 from by omega,show 2+i-2=i from by omega,List.range'_concat,List.filter_append]
 congr 1
 by_cases h:2+i∈ks<;>simp[h]
theorem jP6(ks)(k:Nat)(h:2<=k):qB9 (k+1) ks=qB9 k ks++(if k∈ks then [] else [k]):=by
 have e:=jP5 ks (k-2);rw[show 2+(k-2+1)=k+1 from by omega,show 2+(k-2)=k from by omega] at e;exact e
theorem xC3(N:Nat)(ks):(qB9 N ks).length<=N:=by
 unfold qB9;refine lT (List.length_filter_le _ _) ?_;simp
theorem jS9(a)(b:Nat):qH5 (a++[b])=qH5 a++[.int .i64 (b:Int)]:=by simp[qH5]
theorem jS2:(prog.info? 3).map (λi=>(i.zero,i.size,i.bytes))=some (some (.int .i64 0),1,8):=kR
theorem kF6(M c V A N:Nat)(ks)(w)(n:BS w M c ks)(o:w.heap[V]?=some (qE4 A N))(H:2<=N)(T:N<=1000):
  Calls prog 171 #[.map (some M),.pointer (some ⟨V,0,none⟩)] w λe g=>∃ v,e=.returned v/\Slc g 3 1 v (qB9 N ks).length (qH5 (qB9 N ks))/\Kp [] w g:=by
 obtain⟨R,I,O,P,Q⟩:=info_parts jS2;have C:=zh n;have G:=zh o;clear n o;go_enter func171,ntmps171;go_wp2_with fail
 go_loopw [5,6] (λs i wr=>∃ (k:Nat),2<=k/\k<=N/\i=.int .i64 (k:Int)/\Hid (wr.ownsRow w.heap.size 3 1 s (qB9 k ks).length (qH5 (qB9 k ks)))/\Hid (Kp [] w wr)) (λ_ i _=>N-(intOf i).toNat)
 case atStart=>exact⟨2,Nat.le_refl _,H,rfl,World.ownsRow_nil _ _ _ _,Kp.refl _ _⟩
 case round=>
  obtain⟨k,K,W,rfl,f,a⟩:=hrel;go_wp2_with fail;refine (zT9 V A N wr (a.hp G)).mono ?_;rintro e g ⟨rfl,y⟩;rw[y];clear y g;by_cases X:k<N
  .have t:=(C.kp a sM).look (k:=k) oM;have J:(k:Int)<(N:Int):=oM
   have m:=zh (jP6 ks k K);have U:=xC3 k ks;by_cases b:k∈ks
   .have d:decide (k∈ks)=true:=by simp[b]
    rw[d] at t;have h:=f.out;rw[show qB9 k ks=qB9 (k+1) ks from by rw[m.out,if_pos b,List.append_nil]] at h;have D:=Hid.mk' h;clear h;clear d b;go_wp2;refine⟨⟨k+1,oM,oM,by go_num,D.alloc _,a.alloc _⟩,by simp[intOf];omega⟩
   .have d:decide (k∈ks)=false:=by simp[b]
    rw[d] at t;have z:Hid (qB9 (k+1) ks=qB9 k ks++[k]):=by show _=_;rw[m.out,if_neg b]
    clear d b
    go_wp2_with (at_builtin;refine wpList_append_own _ rfl _ _ 24 rfl w.heap.size 3 R (ϊ 0) 1 8 underlying24 I O P Q rfl dC _ _ _ rfl ((f.alloc _).alloc _) ⟨wr.heap.size+1,0,none⟩ 1 1 [ϊ (k:Int)] rfl rfl ?_ (by simp[Value.oneCell']) (by unfold maxLen;omega) oM (by have:=a.out.size;simp;omega) ?_)
    .intro j u l
     cases j with
     | zero=>
      simp only[zH,Option.some.injEq] at l;subst l;simp[Addr.add]
     | succ j=>simp at l
    .intro S w1 x p _;have E:Hid (w1.ownsRow w.heap.size 3 1 S (qB9 (k+1) ks).length (qH5 (qB9 (k+1) ks))):=by
      show World.ownsRow _ _ _ _ _ _ _;rw[z.out,jS9,List.length_append];exact x
     have B:=zh (((a.alloc _).alloc _).grown p (λq L=>Or.inr (qI6 f q L)));clear x p;go_wp2;exact⟨⟨k+1,oM,oM,by go_num,E,B⟩,by simp[intOf];omega⟩
  .have J:¬(k:Int)<(N:Int):=oM
   have r:k=N:=oM
   have h:=f.out;rw[r] at h;have F:=Hid.mk' h;clear h;clear r;go_wp2;go_ret;exact⟨_,rfl,qL0 F,a⟩
def tcs(V:Nat)(h:HL):List Value:=[.pointer (some ⟨V,0,none⟩),.string h.key,.int .i64 h.b,.int .u64 h.s,.pointer h.ptr]
def qM9(V:Nat)(hs:List HL):List Value:=hs.flatMap (tcs V)
theorem kO0(V:Nat)(hs)(i k:Nat)(b:i<hs.length)(c:k<5):(qM9 V hs)[i*5+k]?=(tcs V hs[i])[k]?:=by
 have h:=xB8 (tcs V) 5 hs (λx _=>rfl) i b;have a:=congrArg (λz=>z[k]?) h;simp only[List.getElem?_take,if_pos c,List.getElem?_drop] at a;exact a
theorem Slc.tree{V:Nat}{w}{v}{hs}(h:Slc w 89 5 v hs.length (qM9 V hs))(o:1<=hs.length):
  ∃ g a cap cur d,v=.slice (some ⟨g,a,none⟩) hs.length cap/\hs.length<=cap/\w.heap[g]?=some (.cells cur 89 d)/\∀ i (h:i<hs.length),cur[a+i*5]?=some (.pointer (some ⟨V,0,none⟩))/\cur[a+i*5+1]?=some (.string hs[i].key)/\cur[a+i*5+2]?=some (.int .i64 hs[i].b)/\cur[a+i*5+3]?=some (.int .u64 hs[i].s)/\cur[a+i*5+4]?=some (.pointer hs[i].ptr):=by
 rcases h.val with⟨m,_⟩|⟨g,a,cap,cur,d,e,n,f,j,l⟩
 .omega
 .have c:∀ i (b:i<hs.length) k (hk:k<5) u,(tcs V hs[i])[k]?=some u->cur[a+i*5+k]?=some u:=λi b k hk u hu=>by
   rw[Nat.add_assoc];exact l _ _ ((kO0 V hs i k b hk).trans hu)
  exact⟨g,a,cap,cur,d,e,f,j,λi b=>⟨c i b 0 oM _ rfl,c i b 1 oM _ rfl,c i b 2 oM _ rfl,c i b 3 oM _ rfl,c i b 4 oM _ rfl⟩⟩
def qA4(ks:List Nat):Root→List Nat
 | .none=>ks
 | .at n l=>qG3 (qG0 n) ks l
def qC9:Root→Nat
 | .none=>0
 | .at n l=>qB6 n l.sub
theorem zW2(E:SEnv)(hO:∀ (n b:Nat) (s:Int) (t:Tn n),E.O n b s t->b<=1000000)(M c:Nat)(ks:List Nat)(v:Value)(d:List HL)(rs:List Root)(w:World)(hd:E.Dev w)(r:Slc w 89 5 v d.length (qM9 E.V d))(hl:d.length=rs.length)(hr:∀ i (h1:i<d.length) (x:i<rs.length),RR E.toEnv w d[i] rs[i]/\(∀ n l,rs[i]=.at n l->l.key=⟨#[]⟩))(hM:BS w M c ks)(hc:c+meas qC9 rs<1000000)(hn:d.length<=1000):
  Calls prog 170 #[.map (some M),v] w λe F=>e=.returned (.tuple #[])/\BS F M (c+meas qC9 rs) (rs.foldl qA4 ks)/\E.Dev F/\Kp (M::E.S) w F:=by
 obtain⟨bs,cp,rfl⟩:=qO8 r;obtain⟨u,ai⟩:=eX d.length;have HV:=zh r;rw[<-ai];have Z:=zh (n2 ai hl);have HR:=zh hr;have R:=zh hd;have HM:=zh hM;have bl:u<=1000:=oM
 clear r ai hl hr hd hM hn;go_enter func170,ntmps170;go_wp2_with fail
 go_loopw [8] (λi wr=>∃ j:Nat,j<=u/\i=.int .i64 j/\Hid (BS wr M (c+meas qC9 (rs.take j)) ((rs.take j).foldl qA4 ks))/\Hid (E.Dev wr)/\Hid (Kp (M::E.S) w wr)) (λi _=>u-(intOf i).toNat)
 case atStart=>exact⟨0,zL _,rfl,by show BS _ _ _ _;simpa [qD6] using HM.out,R,Kp.refl _ _⟩
 case round=>
  obtain⟨j,hj,rfl,an,al,Y⟩:=hrel;by_cases bm:j<u
  .have a5:j<d.length:=by have:=Z.out;omega
   have O:j<rs.length:=by have:=Z.out;omega
   obtain⟨gb,D,bk,cur,fq,r,bh,ak,ax⟩:=HV.out.tree oM;obtain⟨c0,c1,c2,c3,c4⟩:=ax j a5;simp only[vJ,true_and] at r;obtain⟨rfl,rfl⟩:=r;have o:=Y.out.heap ak (qQ6 E R.out HM.out ak dC);have a0:=ξ o (D+j*5);have a1:=ξ o (D+j*5+1);have a2:=ξ o (D+j*5+2);have a3:=ξ o (D+j*5+3);have a4:=ξ o (D+j*5+4);rw[c0] at a0;rw[c1] at a1;rw[c2] at a2;rw[c3] at a3;rw[c4] at a4;have bi:=ζ o;have ay:(j:Int)<(u:Int):=oM
   have P:=qL6 qC9 rs j O;have bj:=zA2 qC9 rs j O;have X:Hid ((rs.take (j+1)).foldl qA4 ks=qA4 ((rs.take j).foldl qA4 ks) rs[j]):=by show _=_;rw[tA O,List.foldl_append];rfl
   clear ax bh ak c0 c1 c2 c3 c4;go_wp2_with fail;obtain⟨w1,bb,G,y,bp⟩:=qF7 wr (.cells #[ϖ E.V,.string d[j].key,ϊ d[j].b,.int .u64 d[j].s,.pointer d[j].ptr] 89);rw[<-bb];clear bb a0 a1 a2 a3 a4 o bi ay;have J:=an.out.kp y sM;have H:=(Env.To.of0 al.out y).dev;have A:=Y.out.tr y;have C:=zC7 E R.out HM.out;obtain⟨m,ah⟩:=HR.out j a5 O
   cases hrj:rs[j] with
   | none=>
    rw[hrj] at m;have hz:d[j]=⟨⟨#[]⟩,0,0,none⟩:=m;refine (show Calls _ _ _ _ _ from (by have h:=qY7 E.V w1;rw[<-hz] at h;exact h:Ω 92 #[τ E.V d[j]] w1 λe F=>e=ϱ (.bool true)/\Kp [] w1 F)).mono ?_;rintro e w2 ⟨rfl,f⟩;have U:=zh (n3 (J.kp f sM) ((Env.To.of0 H f).dev) (A.tr f));have g:=f.hp G;have bg:=ζ g;clear J H A f y G g m ah hz C;go_wp2;refine⟨⟨j+1,oM,by go_num,?_,U.out.2.1,U.out.2.2⟩,by simp[intOf];omega⟩;show BS _ _ _ _;rw[X.out,hrj,P,hrj];exact U.out.1.mono (by simp[qC9])
   | «at» n l=>
    rw[hrj] at m;have a8:=RL.keep m A C;refine (show Calls _ _ _ _ _ from qV1 E.toEnv n d[j] l w1 a8 (ah n l hrj)).mono ?_;rintro e w2 ⟨rfl,f⟩;have L:=J.kp f sM;have aq:=(Env.To.of0 H f).dev;have ac:=A.tr f;have g:=f.hp G;have bg:=ζ g;have a9:=RL.keep m ac C;have d1:=ξ g;rw[hrj] at bj P;clear J H A f y G ah a8;have bn:1<=qC9 (.at n l):=by simp only[qC9];cases n<;>simp[qB6]
    go_wp2_with fail;refine (show Calls _ _ _ _ _ from zX5 hO n M _ _ d[j] l w2 L a9 oM).mono ?_;rintro e Q ⟨go,bc,rfl,av,I,ba⟩;have aj:∀ {S:List Nat} {W:World} {cc:Nat} {kk:List Nat} {k:Nat} {c:Array Value} {t:TypeId} {fr:Nat × Nat},BS W M cc kk->Ϙ W k (.cells c t fr)->k ∉ [M]:=λhB e hm=>by
     obtain⟨es,cl,x⟩:=hB.at;rw[<-mS hm,e] at x;cases x
    have a6:OffD w2 [M]:=λk hk c t fr e=>absurd hk (aj (S:=[]) L e);have ar:=E.keepX _ _ _ aq I a6;have ad:=ac.tr I;have ap:=I.heap g (aj (S:=[]) L g);have ao:=zh ba;have aa:=zh av;have T:=zh ar;have am:=zh ad;have bf:=zh (RL.keep m ad C);have bd:=zh ap;clear ba av ar ad ap aj a6 I L aq ac g a9 C m d1
    cases go with
    | false=>
     go_wp2;refine⟨⟨j+1,oM,by go_num,?_,T,am⟩,by simp[intOf];omega⟩;show BS _ _ _ _;rw[X.out,hrj,P,qA4,ao.out];exact aa.out.mono oM
    | true=>
     go_wp2_with fail;have p:Ϙ Q.drew wr.heap.size (.cells #[ϖ E.V,.string d[j].key,ϊ d[j].b,.int .u64 d[j].s,.pointer d[j].ptr] 89):=bd.out;refine wp_region_held_drew (S:=λW=>Ϙ W wr.heap.size (.cells #[ϖ E.V,.string d[j].key,ϊ d[j].b,.int .u64 d[j].s,.pointer d[j].ptr] 89)) kR p (λ_=>?_);refine zU 0 (.map (some M)) p ?_;refine zV 1 (.agg #[ϖ E.V,.string d[j].key,ϊ d[j].b,.int .u64 d[j].s,.pointer d[j].ptr]) rfl (λW B=>by have a:=ξ B;clear B;go_simp) p ?_;refine zV 2 (.agg #[ϖ E.V,.string d[j].key,ϊ d[j].b,.int .u64 d[j].s,.pointer d[j].ptr]) rfl (λW B=>by have a:=ξ B;clear B;go_simp) p ?_;refine zq 3 λK hK=>?_;go_simp;have z:Kp [] Q Q.drew:=kF.drew;have ag:=Env.To.of0 T.out z;refine (show Calls _ _ _ _ _ from qX3 E.toEnv n d[j] l Q.drew ag.dev (RL.keep bf.out z (Apt.nil _ _))).mono ?_;rintro e w4 ⟨q4,rfl,a7,q⟩;have ae:BS w4 M _ bc:=(aa.out.kp z sM).kp q.kp (by obtain⟨es,cl,x⟩:=aa.out.at;exact E.ninM T.out x);have N:=E.stay ag.dev q p dC;refine zk hK N ?_
     refine zq 4 λK hK=>?_;go_simp;have bo:qC9 (.at n l)=qB6 n l.sub:=rfl;refine (show Calls _ _ _ _ _ from zW9 E hO n l.sub q4 M _ bc d[j] w4 q.dev a7 ae oM).mono ?_;rintro e w5 ⟨rfl,aw,au,ab⟩;refine hK.out _ _ (ab.heap N (qQ6 E q.dev ae N dC)) (λ_=>?_);refine zd ?_
     try simp only[zZ]
     have V:=zh (n3 aw au (((am.out.tr z).trans q.kp (λi hi _=>mM _ hi)).trans ab (λi hi _=>hi)));clear aw au ab N ae q a7 ag z p;go_wp2;refine⟨⟨j+1,oM,by go_num,?_,V.out.2.1,V.out.2.2⟩,by simp[intOf];omega⟩;show BS _ _ _ _;rw[X.out,hrj,P,qA4,ao.out];exact V.out.1.mono oM
  .have ay:¬(j:Int)<(u:Int):=oM
   have az:rs.take j=rs:=tL (by have:=Z.out;omega);have af:=an.out;rw[az] at af;have be:=zh af;clear af az;go_wp2
   go_end0
   exact⟨rfl,be.out,al.out,Y.out⟩
section
attribute [local go_sem] Oper.semAt_some
structure Come(D:DataW Unit)(left:Lit→Bool)(ks:List Int):Prop where
 sub:∀ kl,left kl=true→Maps.has D kl=true
 has:∀ x∈ks,Maps.has D (χ x)=true∧keyOf prog 78 (.int .u64 x)=some (χ x)
 all:∀ kl,Maps.has D kl=true→left kl=true∨∃ x∈ks,kl=χ x
theorem Come.start(D):Come D (Maps.has D) []:=⟨λ_ h=>h,λx hx=>(by cases hx),λ_ h=>Or.inl h⟩
theorem Come.step{D}{left:Lit->Bool}{ks:List Int}(h:Come D left ks){x:Int}(f:left (χ x)=true)(b:keyOf prog 78 (.int .u64 x)=some (χ x)):Come D (λz=>left z && !z.sameKey (χ x)) (ks++[x]):=by
 refine⟨λkl b=>h.sub kl (by simp at b;exact b.1),λy a=>?_,λkl b=>?_⟩
 .rcases mA a with a|a
  .exact h.has y a
  .rw[mS a];exact⟨h.sub _ f,b⟩
 .rcases h.all kl b with d|⟨y,a,e⟩
  .by_cases c:kl.sameKey (χ x)=true
   .exact Or.inr ⟨x,sM,WideAt.sameKey_eq c⟩
   .exact Or.inl (by simp[d,c])
  .exact Or.inr ⟨y,by simp[a],e⟩
def KeysU(D:DataW Unit)(ks:List Int):Prop:=(∀ x∈ks,Maps.has D (χ x)=true∧keyOf prog 78 (.int .u64 x)=some (χ x))∧(∀ kl,Maps.has D kl=true→∃ x∈ks,kl=χ x)∧ks.length≤Maps.size D
theorem jV2(n:Nat)(hn:1<=n)(l i M V b:Nat)(D)(J:List Int->World->Prop)
  (A:∀ h x W,J h W->h.length<Maps.size D->YieldAt Fence.wide (n-1) prog l #[.int .u64 x] W λe a=>e=.returned (.bool true)/\J (h++[x]) a/\KeepsWalks W a)
  (W) (j:AbidesFrom W.heap.size J) (hm:W.cell? ⟨i,0,none⟩=some (.map (some M))) (I:RM W V M b D) (t:J [] W):
  CallsIn Fence.wide n prog 239 #[.func (.yield l) #[] #[],.pointer (some ⟨i,0,none⟩)] W λe a=>(∃ v,e=.returned v)/\∃ ks:List Int,KeysU D ks/\J ks a:=by
 refine callsIn_of_wp func239 rfl trivial ?_ rfl;simp only[ntmps239,List.size_toArray,lC,List.length_nil,Nat.reduceAdd,Nat.reduceSub,Array.replicate_succ,Array.replicate_zero,List.push_toArray,aT,nA,cA]
 gi_wp2_with (first
  | (gi_at_range;refine wpListIn_range_own _ rfl _ 167 rfl 78 89 qM4 zA1 _ M b _ rfl I ?_;intro P K B aa)
  | gi_in)
 go_frame
 gi_loopw [3] (λ_ wr=>∃ (left:Lit->Bool) (cnt:Nat) (ks:List Int),wr.ranges prog 78 (qU8 V) M W.heap.size b D left cnt/\ks.length+cnt<=Maps.size D/\Come D left ks/\J ks wr)
  (λ_ wr=>wr.rangeLeft M W.heap.size)
 case atStart=>
  exact⟨_,_,[],K,sM,Come.start D,j [] W P none t B (λr e=>by cases e)⟩
 case round=>
  obtain⟨left,cnt,ks,g,Y,d,k⟩:=hrel
  gi_wp2_with (first
   | (gi_at_next;refine wpListIn_next_ranges _ rfl _ rfl 78 qM4 (qU8 V) (.int .u64) (λv:Value=>v) (λkey kl f=>by obtain⟨x,hx,_⟩:=Maps.keyOf_int_inv underlying78 f;exact⟨x,hx⟩) (λv y O=>⟨v,rfl⟩) M W.heap.size b _ _ _ rfl g ?_ ?_)
   | gi_in)
  .intro X F
   gi_wp2
   go_end0
   exact⟨⟨_,rfl⟩,ks,⟨d.has,λkl f=>(d.all kl f).resolve_left (by simp[F]),oM⟩,k⟩
  .intro x c kl yd yp p q m G O U L H C N Z;obtain⟨x',s,rfl,_⟩:=Maps.keyOf_int_inv underlying78 m;cases s;have u:=j ks wr p (some W.heap.size) k C (λr e=>by cases e;exact⟨lR,g.iter_walk⟩);obtain⟨T,ab,R,S,hy,z⟩:=A ks x p u oM;clear N
   gi_wp2
   refine z.mono ?_;rintro e Q ⟨rfl,w,E⟩
   gi_wp2
   have o:=L.of_walks E
   go_roundw
   case rel=>exact⟨_,q,ks++[x],o,sO,d.step G m,w⟩
   case measure=>rw[o.left_eq,g.left_eq];exact H
end
section
attribute [local go_sem] Oper.semAt_some
theorem Kp.ofGrown{a b}{c:Option Nat}(h:a.grownBy b c):Kp c.toList a b:=kF.grown h (λk d=>Or.inl (by rw[d];simp))
theorem Kp.putO{S}{a b}(h:Kp S a b){l:Nat}(f:l∈S)(o):Kp S a (b.putObj l o):=
 ⟨h.os,h.tape,h.output,by have:=h.size;simp[World.putObj];omega,λk d c=>(World.putObj_heap_other (by intro e;subst e;exact c f)).trans (h.block k d c)⟩
theorem kS7{nn:Nat}{g:Operand}{ps:Array Tmp}{assign body:Code}{Q:Exit→Act→World→Prop}{a:Act}{w:World}(gf:Nat)(lb:Array Value)(S:List Int→Prop)(N:Nat)(h1:1≤nn)
  (hg:a.eval g=.func (.func gf) #[] lb) (eg:∀ (args:Array Value) (W:World),Sem.run prog (callFunc gf args) W=.ok (.enter gf args) W) (hps:ps.size=1) (hseq:SeqGives Fence.wide (nn-1) prog gf lb (.int .u64) S N w)
  (J:List Int→World→Prop)
  (hJK:∀ s W W' T,J s W→Kp T W W'→(∀ k∈T,w.heap.size≤k∧∀ c t fr,W.heap[k]?≠some (.cells c t fr))→J s W')
  (hJ0:∀ W,Kp [] w W→J [] W)
  (a₁:Int→Act)
  (hassign:∀ (l:Nat) (x:Int) (W:World) (K:Act→World→Prop),K (a₁ x) W→assign.wpIn (Fence.wide.inRound l) (nn-1-1) prog (Exit.then K (fun _ _ _=>False)) { tmps:=(ps.zip #[.int .u64 x]).foldl (fun t (p,v)=>t.setIfInBounds p v) a.tmps,defers:=[] } W)
  (hbody:∀ (l:Nat) (pre:List Int) (x:Int) (W:World),J pre W→pre.length<N→w.heap.size+2≤W.heap.size→
   body.wpIn (Fence.wide.inRound l) (nn-1-1) prog (fun e _ W3=>match e with
    | .normal=>J (pre++[x]) W3∧W.heap.size≤W3.heap.size∧∀ (k:Nat) (o:Obj),W.heap[k]?=some o→(∀ c t fr,o≠Obj.cells c t fr)→W3.heap[k]?=some o
    | _=>False) (a₁ x) W)
  (hdone:∀ (W:World) (ss:List Int),S ss→J ss W→W.heap[w.heap.size]?=some (.deferred (some []))→Q .normal { a with defers:={ target:=.collected w.heap.size,args:=#[] }::a.defers } W):
  (Code.rangeFunc g ps assign body).wpIn Fence.wide nn prog Q a w:=by
 refine wpIn_rangeFunc ?_;intro fn hfn;obtain⟨rec,hrec⟩:∃ rec:LoopState→Option Code→Loop,rec=fun st pe=>{ state:=st,pending:=pe,fn,tmps:=a.tmps,params:=ps,assign,body,defers:=w.heap.size }:=⟨_,rfl⟩;obtain⟨W1,hW1⟩:∃ W1,(w.alloc (.deferred (some []))).alloc (.loop (rec .ready none))=W1:=⟨_,rfl⟩;have hL1:W1.heap[w.heap.size+1]?=some (.loop (rec .ready none)):=by
  rw[←hW1];have:=World.alloc_heap_new (w.alloc (.deferred (some []))) (.loop (rec .ready none));rwa [World.size_alloc] at this
 have hD1:W1.heap[w.heap.size]?=some (.deferred (some [])):=by
  rw[←hW1];exact (Below.heap_alloc _ _ _ (by simp)).trans (World.alloc_heap_new w _)
 have hK1:Kp [] w W1:=by rw[←hW1];exact ((Kp.refl _ _).alloc _).alloc _
 have hB1:Below w.heap.size w W1:=by rw[←hW1];exact ((Below.refl _ w).alloc (Nat.le_refl _) _).alloc (by simp) _
 have hs1:W1.heap.size=w.heap.size+2:=by rw[←hW1];simp
 refine⟨w.heap.size+1,[{ target:=.collected w.heap.size,args:=#[] }],W1,{ target:=.fn (.func gf) lb,args:=#[.func (.yield (w.heap.size+1)) #[] #[]] },W1,gf,
  #[.func (.yield (w.heap.size+1)) #[] #[]]++lb,W1,?_,?_,?_,?_,fun h=>(by cases h),?_⟩
 ·rw[←hW1,hrec];exact run_enterLoop_outer _ _ _ _ _
 ·simp only[resolve,hg];simp[go_sem]
 ·intro f' hf';trivial
 ·simp[invoke,go_sem,eg]
 ·refine (hseq (w.heap.size+1) (fun ss W=>J ss W∧W.heap[w.heap.size+1]?=some (.loop (rec .ready none))∧W.heap[w.heap.size]?=some (.deferred (some []))) W1 hB1 ?_ ?_ ⟨hJ0 W1 hK1,hL1,hD1⟩).mono ?_
  ·rintro ss W W' row ⟨hJ,hL,hD⟩ hgr hrow;have hr2:∀ r,row=some r→∃ o:Obj,W.heap[r]?=some o∧o.isWalk=true:=fun r e=>(hrow r e).2;refine⟨hJK ss W W' _ hJ (Kp.ofGrown hgr) (fun k hk=>?_),(grownBy_keeps hgr hr2 hL rfl).trans hL,(grownBy_keeps hgr hr2 hD rfl).trans hD⟩;obtain⟨h3,o,h4,h5⟩:=hrow k (by simpa using hk);exact⟨by omega,fun c t fr e=>by rw[h4] at e;cases e;cases h5⟩
  ·
   rintro pre x W ⟨hJ,hL,hD⟩ hpl;have hlt:w.heap.size+1<W.heap.size:=ζ hL;have hy:=run_yield (P:=prog) (args:=#[.int .u64 x]) hL (by rw[hrec];simp[hps]);rw[hrec] at hy;refine⟨fn,_,assign,body,hy,roundIn_of_wpIn hfn (hassign _ x W _ ?_)⟩;clear hy;refine⟨_,run_beginRound hL (by rw[hrec]),?_⟩;obtain⟨W3,hW3,hL3,hK3⟩:∃ W3,W3=W.putObj (w.heap.size+1) (.loop { rec .ready none with state:=.busy })∧W3.heap[w.heap.size+1]?=some (.loop { rec .ready none with state:=.busy })∧Kp [w.heap.size+1] W W3:=
    ⟨_,rfl,World.putObj_heap_same (ζ hL),(Kp.refl _ _).putO (by simp) _⟩
   have hk3:KeepsWalks W W3:=by rw[hW3];exact KeepsWalks.putObj _ hL rfl
   rw[←hW3];clear hW3;have hJ3:J pre W3:=hJK _ _ _ _ hJ hK3 (fun k hk=>by rw[List.mem_singleton.1 hk];exact⟨by omega,fun c t fr e=>by rw[hL] at e;cases e⟩);have hD3:=hK3.hp hD;refine wpIn_mono (hbody _ pre x W3 hJ3 hpl (by have:=hK3.size;omega)) ?_;rintro e a3 W4 hp
   cases e with
   | normal=>
    obtain⟨hJ4,hs4,hk4⟩:=hp;have hb1:=hk4 _ _ hL3 (fun c t fr e=>by cases e);have hb2:=hk4 _ _ hD3 (fun c t fr e=>by cases e);have hr:=run_endRound (P:=prog) none hb1;rw[hrec] at hr;refine⟨_,_,hr,rfl,?_⟩;have hKf:Kp [w.heap.size+1] W4 (W4.putObj (w.heap.size+1) (.loop (rec .ready none))):=(Kp.refl _ _).putO (by simp) _;have hfin:(J (pre++[x]) (W4.putObj (w.heap.size+1) (.loop (rec .ready none)))∧(W4.putObj (w.heap.size+1) (.loop (rec .ready none))).heap[w.heap.size+1]?=some (.loop (rec .ready none))∧(W4.putObj (w.heap.size+1) (.loop (rec .ready none))).heap[w.heap.size]?=some (.deferred (some [])))∧KeepsWalks W (W4.putObj (w.heap.size+1) (.loop (rec .ready none))):=
     ⟨⟨hJK _ _ _ _ hJ4 hKf (fun k hk=>by rw[List.mem_singleton.1 hk];exact⟨by omega,fun c t fr e=>by rw[hb1] at e;cases e⟩),World.putObj_heap_same (ζ hb1),hKf.hp hb2⟩,
      (hk3.trans ⟨hs4,fun k o hk ho=>hk4 k o hk (fun c t fr e=>by rw[e] at ho;cases ho)⟩).trans (KeepsWalks.putObj _ hb1 rfl)⟩
    rw[hrec] at hfin ⊢;exact hfin
   | ret=>exact hp.elim
   | exit i=>exact hp.elim
   | goto l=>exact hp.elim
   | panic ch=>exact hp.elim
   | outgrown=>exact hp.elim
  ·
   rintro e W2 ⟨⟨v,rfl⟩,ss,hS,hJ2,hL2,hD2⟩;have hr:=run_endLoop (P:=prog) hL2 (by rw[hrec];simp);rw[hrec] at hr;have hKf:Kp [w.heap.size+1] W2 (W2.putObj (w.heap.size+1) (.loop { rec .ready none with state:=.exhausted })):=(Kp.refl _ _).putO (by simp) _;refine⟨none,_,hr,?_⟩;have:=hdone (W2.putObj (w.heap.size+1) (.loop { rec .ready none with state:=.exhausted })) ss hS (hJK _ _ _ _ hJ2 hKf (fun k hk=>by rw[List.mem_singleton.1 hk];exact⟨by omega,fun c t fr e=>by rw[hL2] at e;cases e⟩)) (hKf.hp hD2);rw[hrec] at this;exact this
end
theorem jH0(b x n V:Nat)(t)(s)(D)(w)(c:w.heap[b]?=some (.cells #[.pointer (some ⟨x,0,none⟩)] 32))(a:w.heap[x]?=some (qA1 t))(f:w.heap[t.St]?=some (θ 1 s))(o:RM w s.V s.M n D)(P:0<=t.nr)(Q:t.nr<=1000000000)(q:s.M≠t.St)(B:x≠t.St)(A:x≠s.M)(u:b≠s.M)(X:s.M<w.heap.size)(R:t.on=some ⟨V,0,none⟩)(S:t.wrt=false):
  Calls prog 68 #[.pointer (some ⟨b,0,none⟩)] w λe i=>e=qB5 none/\i.heap[x]?=some (qA1 t.ended)/\i.heap[t.St]?=some (θ 1 (s.left t.nr))/\RM i s.V s.M n (D.del (χ t.nr))/\Kp [t.St,x,s.M] w i:=by
 have ad:=ζ a;have aa:=ζ c;have Y:=ζ f;have y:b≠x:=zA8 c a dC;have v:b≠t.St:=zA8 c f dC;have C:=ϻ c 0;have l:=ξ a 4;have F:=ξ a 5;have G:=ξ a 6;have H:=ξ a 7;have I:=ξ a 8;simp only[qA1,zG,zH,zI] at l F G H I;rw[R] at l;have O:=zh a;have N:=zh c;have M:=zh f;have K:=zh o;have L:Hid (s.M≠t.St/\x≠t.St/\x≠s.M/\b≠s.M/\b≠x/\b≠t.St):=⟨q,B,A,u,y,v⟩;clear a c f o q B A u y v;go_enter func68,ntmps68;go_wp2_with fail;obtain⟨U,z,W,d,ab⟩:=alB w (.cells (ϟ V t.h) 89);rw[<-z];clear z C l F G H I;obtain⟨T,n2,n3,n4,n5,n6⟩:=L.out;refine (qV2 x n t s D U (d.hp O) (d.hp M) (K.kp d sM) P Q T n2 n3).mono ?_;rintro e w1 ⟨rfl,g,r,p,m⟩;have j:Kp [t.St,x,s.M] w w1:=(d.mono sM).trans m (λ_ h _=>h);have k:=j.heap N (by simp;exact⟨n6,n5,n4⟩);have Z:=ζ k;have ac:=ζ g;have C:=ϻ k 0;have E:=ξ g 2;simp only[qA1,Tx.ended,zG,zH,zI] at E;rw[S] at E;have J:Hid (Ϙ w1 x (qA1 t.ended)/\Ϙ w1 t.St (θ 1 (s.left t.nr))/\RM w1 s.V s.M n (D.del (χ t.nr))/\Kp [t.St,x,s.M] w w1):=⟨g,r,p,j⟩;clear j r p m k g;go_wp2
 go_end0
 exact⟨rfl,J⟩
theorem kO4(x n V:Nat)(t)(s)(D)(w)(g:w.heap[x]?=some (qA1 t))(E:t.over=false)(j:w.heap[t.St]?=some (θ 0 s))(G:s.po=false)(A:RM w s.V s.M n D)(u:0<=t.nr)(y:t.nr<=1000000000)(c:s.M≠t.St)(a:x≠t.St)(l:x≠s.M)(K:s.M<w.heap.size)(F:t.on=some ⟨V,0,none⟩)(I:t.wrt=false):
  Calls prog 31 #[.pointer (some ⟨x,0,none⟩)] w λe d=>e=.returned .nilIface/\d.heap[x]?=some (qA1 t.ended)/\d.heap[t.St]?=some (θ 0 (s.left t.nr))/\RM d s.V s.M n (D.del (χ t.nr))/\Kp [t.St,x,s.M] w d:=by
 have M:=zM;have O:=ζ g;have L:=ζ j;go_enter func31,ntmps31;go_wp2_with fail;obtain⟨J,k,z,b,N⟩:=alB w (.cells #[ϖ x] 32);rw[<-k];clear k;refine (qP3 none dC x t.St 68 t s (s.left t.nr) #[] #[ϖ w.heap.size] _ [x,s.M] (λW w1=>Ϙ w1 x (qA1 t.ended)/\RM w1 s.V s.M n (D.del (χ t.nr))) J (b.hp g) E rfl (b.hp j) G a (zY1 _) (by intro i hi;simp at hi;omega) ?_).mono ?_
 .intro W hK B;have f:=(b.mono sM).trans hK (λ_ h _=>h);have C:w.heap.size≠t.St:=oM
  refine (jH0 w.heap.size x n V t s D W (hK.heap z (by simp;exact C)) (f.heap g (by simp;exact a)) B (A.kp f (by simp;exact c)) u y c a l oM (by have:=f.size;omega) F I).mono ?_;rintro e w1 ⟨rfl,o,p,q,r⟩;exact⟨rfl,⟨o,q⟩,r,p⟩
 rintro e P ⟨v,rfl,hv,hSt2,hK2,W,w1,Bb,⟨ha,hb⟩,hKW,hB1,hB2,hB3,hKB⟩;have H:v=.nilIface:=hv;subst H;have m:=zh (n4 (hKB.heap ha (by simp;exact⟨a,oM⟩)) hSt2 (hb.kp hKB (by simp;exact⟨c,oM⟩)) ((b.mono sM).trans hK2 (λ_ h _=>h)));clear hv ha hb hSt2 hK2 hKW hKB hB3 c a l;go_wp2;go_ret;exact⟨rfl,m⟩
theorem kO3(x:Nat)(t)(s)(w)(j:w.heap[x]?=some (qA1 t))(o:t.over=true)(n:w.heap[t.St]?=some (θ 0 s))(p:s.po=false)(k:x≠t.St):
  Calls prog 31 #[.pointer (some ⟨x,0,none⟩)] w λe b=>∃ v,e=.returned v/\ErrV b v (some 5)/\b.heap[t.St]?=some (θ 0 s)/\Kp [t.St] w b:=by
 have r:=zM;have y:=ζ j;go_enter func31,ntmps31;go_wp2_with fail;obtain⟨q,i,m,a,u⟩:=qF7 w (.cells #[ϖ x] 32);rw[<-i];clear i;refine (qT1 x t.St 68 t s #[] #[ϖ w.heap.size] _ q (a.hp j) o rfl (a.hp n) p k).mono ?_;rintro e c ⟨v,rfl,g,f,d⟩;have l:=hid (show ErrV c v (some 5)/\Ϙ c t.St (θ 0 s)/\Kp [t.St] w c from⟨g,f,(a.mono sM).trans d (λ_ h _=>h)⟩);clear g f d k m a;go_wp2;go_ret;exact⟨v,rfl,l⟩
def qM3(l:List KV)(i:Int):Option KV:=if i<0 then none else l[i.toNat]?
theorem jN2(l):(l.find? λ_=>true)=qM3 l 0:=by
 cases l with
 | nil=>rfl
 | cons a l=>rfl
theorem jX0(l):qF0 (λ_=>true) l=qM3 l ((l.length:Int)-1):=by
 rcases List.eq_nil_or_concat l with rfl|⟨a,x,rfl⟩
 .rfl
 .rw[List.concat_eq_append,qT6,xF6 (by rfl),qM3,if_neg sM];simp only[Option.some_or,lA,List.length_singleton];rw[show (((a.length+1:Nat):Int)-1).toNat=a.length by omega];simp
theorem kM4(l)(k):(l.find? λq=>!kl q.k k)=qM3 l (qB0 l k:Nat):=by
 rw[zM1,qM3,if_neg oM,Int.toNat_natCast];rfl
theorem zH0{l}(c:Sorted l){i j:Nat}(a:i<l.length)(b:j<l.length)(h:i<j):kl l[i].k l[j].k=true:=pG c i j a b h
theorem zT0{l}(c:Sorted l){j:Nat}(a:j<l.length):qB0 l l[j].k=j:=by
 rw[qB0,List.findIdx_eq a];refine⟨by simp[qL5],λi b=>?_⟩;simp[zH0 c oM a b]
theorem kC9{l}(c:Sorted l){j:Nat}(b:j<l.length):(l.find? λq=>kl l[j].k q.k)=qM3 l ((qB0 l l[j].k:Nat)+1):=by
 rw[zT0 c b,qM3,if_neg oM,show ((j:Int)+1).toNat=j+1 by omega];have f:∀ i (a:i<l.length),i<=j->kl l[j].k l[i].k=false:=λi a hle=>by
  by_cases e:i=j
  .subst e;exact qL5 _
  .exact qP4 (zH0 c a b oM)
 rw[zM1];by_cases d:j+1<l.length
 .congr 1
  rw[List.findIdx_eq d];exact⟨zH0 c b d oM,λi a=>f i oM oM⟩
 .have:l.findIdx (λq=>kl l[j].k q.k)=l.length:=List.findIdx_eq_length.2 λq hq=>by
   obtain⟨i,a,rfl⟩:=gO hq;simp[f i a oM]
  rw[this,gN lR,gN oM]
theorem kI5{l}(c:Sorted l){j:Nat}(d:j<l.length):qF0 (λk=>kl k l[j].k) l=qM3 l ((qB0 l l[j].k:Nat)-1):=by
 rw[zT0 c d];have g:l.findIdx (λq=>!kl q.k l[j].k)=j:=zT0 c d;rw[xF7 (f:=λk=>kl k l[j].k) (λa b h hb=>qO4 h hb) c (i:=j-1) (by rw[g]) oM];by_cases e:j=0
 .subst e;rw[if_neg (by simp[qL5]),qM3,if_pos oM]
 .rw[if_pos (zH0 c oM d oM),qM3,if_neg oM,show ((j:Int)-1).toNat=j-1 by omega,gQ oM]
end Go.Proofs.YtdohpenfkdckiaaGreatDoor
