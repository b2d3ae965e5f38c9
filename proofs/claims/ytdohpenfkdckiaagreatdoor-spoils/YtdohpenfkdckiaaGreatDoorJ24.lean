import Derived.Test.YtdohpenfkdckiaaGreatDoorJ23
import Derived.Test.YtdohpenfkdckiaaGreatDoorRows
import Derived.ChangeSame
import Derived.ChangeVars
import Derived.JoinedOf
import Derived.RowKit
import Derived.LaidLaws
import Derived.LaidHandle
import Derived.Deep.Slices
import Derived.Stop.Joined
import Derived.Lay
set_option linter.all false
set_option maxRecDepth 100000
set_option maxHeartbeats 20000000
namespace Go.Proofs.YtdohpenfkdckiaaGreatDoor.Gw
open Go.Proofs.Tryz
open Go.ChangeShapes Go.WideShapes Go.RowKit Go.Deep
theorem zZ0:prog.cellsOf 66=7:=kR
theorem jB6:prog.cellsOf 3=1:=kR
theorem jB7:prog.cellsOf 9=1:=kR
section
variable {H:Type} {enc:TypeId × Value→H}
theorem zK1{n:Int}(h:(Lit.int .i64 n).wf=true):-9223372036854775808<=n/\n<=9223372036854775807:=by
 simp[Lit.wf,IntKind.min,IntKind.max,IntKind.bits,IntKind.signed] at h;omega
theorem jX6{W}{J:Nat->Bool}{z:Bool}{n:Nat}{cs:List Value}{x:DataW H × List MemPlace}(h:DataW.trod enc prog W 0 J z n 66 cs=some x):∃ o:SOp,SFits o/\cs=o.cells:=by
 obtain⟨xs,k,L,M,t,A,a⟩:=DataW.trod_struct underlying66 h;rw[zZ0] at t
 match xs,A,cs,t with
 | [y0,y1,y2,y3,y4,y5,y6],_,[v0,v1,v2,v3,v4,v5,v6],_=>
  have j:=a 0 _ rfl;have l:=a 1 _ rfl;have m:=a 2 _ rfl;have p:=a 3 _ rfl;have q:=a 4 _ rfl;have r:=a 5 _ rfl;have s:=a 6 _ rfl;simp[jB6,jB7] at j l m p q r s;obtain⟨B,b,_,K⟩:=DataW.trod_int underlying3 j;obtain⟨C,c,_,u⟩:=DataW.trod_int underlying3 l;obtain⟨D,d,_,v⟩:=DataW.trod_int underlying3 m;obtain⟨E,e,_,w⟩:=DataW.trod_int underlying3 p;obtain⟨F,f,_,y⟩:=DataW.trod_int underlying3 q;obtain⟨G,g,_⟩:=DataW.trod_string underlying9 r;obtain⟨I,i,_⟩:=DataW.trod_string underlying9 s;simp only[List.cons.injEq,and_true] at b c d e f g i;subst b c d e f g i;exact⟨⟨B,C,D,E,F,G,I⟩,⟨zK1 u,zK1 v,zK1 w,zK1 y⟩,rfl⟩
theorem jX7{W}{fuel:Nat}{c0}{x:DataW H × List MemPlace}(h:DataW.trod enc prog W 0 (λ_=>true) true fuel 22 [c0]=some x):
  ∃ p n cap f,c0=.slice p n cap/\Script W p n f/\∀ i,i<n->SFits (f i):=by
 rcases open_slice underlying22 h with⟨d,_⟩|⟨a,s,cap,m,k,D,E,d,_,G,_,y,_,r⟩
 .simp only[List.cons.injEq,and_true] at d;exact⟨none,0,0,λ_=>⟨0,0,0,0,0,⟨#[]⟩,⟨#[]⟩⟩,d,λh=>absurd h oM,λi g=>absurd g oM⟩
 .simp only[List.cons.injEq,and_true] at d;simp only[if_true] at y;rw[zZ0] at r
  haveI:Inhabited SOp:=⟨⟨0,0,0,0,0,⟨#[]⟩,⟨#[]⟩⟩⟩
  obtain⟨f,q⟩:=choose_lt (n:=s) (p:=λi (o:SOp)=>SFits o/\∀ c,c<7->W.cell? ((a.add (i*7)).add c)=o.cells[c]?) (λi g=>by
   obtain⟨F,j,u⟩:=r i oM;obtain⟨_,I,w⟩:=World.cells?_some j;obtain⟨o,A,rfl⟩:=jX6 u;exact⟨o,A,w⟩)
  refine⟨some a,s,cap,f,d,λz=>?_,λi g=>(q i g).1⟩;obtain⟨b,t,C⟩:=a;have l:=(q 0 z).2 0 dC;have B:C=none:=by simpa [Addr.add] using World.cell?_spot (v:=.int .i64 (f 0).k) l
  subst B;refine⟨b,t,rfl,?_,λi g c d=>?_⟩
  .have j:W.cell? ⟨b,t,none⟩=some (ϊ (f 0).k)  :=by
    have e:(f 0).cells[0]?=some (ϊ (f 0).k):=rfl;rw[e] at l;simpa [Addr.add] using l
   unfold World.cell? at j
   cases hb:W.heap[b]? with
   | none=>simp[hb] at j
   | some o=>exact ζ hb
  .have:=(q i g).2 c d;rw[qH0,qH0] at this;exact this
end
theorem xG6:laidOutB prog=true:=kR
theorem kD1:ownKnob prog.godebug=none:=kR
theorem kC9:prog.globalNamed "errors.errorType"=some 0:=kR
theorem kD2:(prog.cutTypes.find? (·.1 == "internal/reflectlite.rtype")).map (·.2)=some 220:=kR
theorem zB4:((List.range 413).filter λt=>prog.rowNamed t [101,114,114,111,114])=[38]:=kR
theorem kD3:prog.types.size=413:=kR
end Go.Proofs.YtdohpenfkdckiaaGreatDoor.Gw
namespace Go.Proofs.YtdohpenfkdckiaaGreatDoor
open Go.Proofs.Tryz
open Go.RowKit
def RowC(w:World)(base:Nat)(v:Value)(ms:List (List KV)):Prop:=∃ xs,RowM w base v ms.length xs∧Both (SPR w) xs ms
section
variable {S:List Nat} {w w':World} {base:Nat} {v:Value} {ms:List (List KV)}
theorem RowC.kp(h:RowC w base v ms)(hK:Kp S w w')(f:∀ i c t d,w.heap[i]?=some (.cells c t d)->i∈S->t≠126/\t≠284):RowC w' base v ms:=by
 obtain⟨xs,g,j,l⟩:=h;exact⟨xs,g.kp hK λk c t d e m=>(f k c t d e m).1,j,λi a b=>(l i a b).keep hK λq hq c t d e hm=>(f q c t d e hq).2 (mS hm)⟩
theorem RowC.keep0(h:RowC w base v ms)(hK:Kp [] w w'):RowC w' base v ms:=h.kp hK λ_ _ _ _ _ a=>by cases a
theorem RowC.nil(w)(base:Nat):RowC w base (.slice none 0 0) []:=⟨[],⟨λu a=>(by cases a),wN _ _ _ _⟩,rfl,λi h=>by cases h⟩
theorem RowC.form(h:RowC w base v ms):∃ p c,v=.slice p ms.length c:=by
 obtain⟨xs,a,b⟩:=h;exact a.form
theorem Both.snoc{α c:Type}{R:α->c->Prop}{a:List α}{b:List c}{x:α}{y:c}(h:Both R a b)(j:R x y):Both R (a++[x]) (b++[y]):=by
 have f:=h.1;refine⟨by simp[f],λi g k=>?_⟩;by_cases d:i<a.length
 .rw[gL d,gL oM];exact h.2 i d oM
 .have e:i=a.length:=by simp at g;omega
  subst e;rw[gR lR,gR oM];simpa [f] using j
theorem Both.app{α j:Type}{R:α->j->Prop}{a c:List α}{b d:List j}(h:Both R a b)(g:Both R c d):Both R (a++c) (b++d):=by
 have f:=h.1;have m:=g.1;refine⟨by simp[f,m],λi k l=>?_⟩;simp only[lA] at k l;by_cases e:i<a.length
 .rw[gL e,gL oM];exact h.2 i e oM
 .rw[gR oM,gR oM];have:=g.2 (i-a.length) oM oM;simpa only[f] using this
end
theorem jN5(base:Nat)(mp)(t:Nat)(were lv)(n:Int)(e wl bt:Bool)(ms:List (List KV))(ps)(w)(A:RowC w base (.slice mp ms.length t) ms)(q:SPR w lv ps)(B:ps.length<=100000)(N:∀ m∈ms,m.length<=100000)(aa:ms.length<=5000000000):
  Calls prog 190 #[.agg #[.int .i64 n,.slice mp ms.length t,.bool e,were,.bool wl,.bool bt],lv] w λr w'=>r=.returned (.bool (decide (ps∈ms)))/\Kp [] w w':=by
 obtain⟨lp,lc,rfl⟩:=q.form;obtain⟨pn,C⟩:=eX ps.length;rw[<-C] at q B |-;obtain⟨k,z⟩:=eX ms.length;rw[<-z] at A aa |-;have u:=hid z;have V:=hid A;have HL:=hid (And.intro q (And.intro B N));have ac:=hid C;clear A q B N z C;go_enter func190,ntmps190;go_wp2_with fail;obtain⟨w0,P,X,s,ah⟩:=qD5 w (.cells #[ϊ n,.slice mp k t,.bool e,were,.bool wl,.bool bt] 123);rw[<-P];clear P
 go_loopw [5] (λi wr=>∃ (j:Nat),j<=k/\i=.int .i64 j/\Hid (ps ∉ ms.take j)/\Hid (Kp [] w0 wr)) (λi _=>k-(intOf i).toNat)
 case atStart=>exact⟨0,zL _,rfl,by show ps ∉ _;simp,Kp.refl _ _⟩
 case round=>
  obtain⟨j,hj,rfl,F,a⟩:=hrel;have x:=a.out.hp X;have ae:=ζ x;have b1:=ϻ x 1;clear x;by_cases ag:j<k
  .have f:j<ms.length:=by have:=u.out;omega
   obtain⟨xs,Q,ad,R⟩:=(V.keep0 s).keep0 a.out;have L:j<xs.length:=oM
   obtain⟨g,cur,ab,Y,y,K⟩:=zI2 (c:=t) (p:=mp) (n:=ms.length) (by have h:=Q.2;rw[<-u.out] at h |-;exact h) oM;have o:=R j L f;obtain⟨U,T,D⟩:=o.form;have J:cur[j]?=some (.slice U (ms[j]).length T):=by
    have I:=congrArg (λl=>l[j]?) K;simp only[Nat.mul_one,List.getElem?_take_of_lt f,gQ L,D] at I;simpa using I
   subst ab;have H:=ξ y j;rw[J] at H;have af:=ζ y;rw[D] at o;obtain⟨un,O⟩:=eX ((ms[j]).length);rw[<-O] at H o;have b:=hid (show Ω 201 #[.slice U un T,.slice lp pn lc] wr λe w'=>e=ϱ (.bool (decide (ms[j]=ps)))/\Kp [] wr w' from xO9 _ _ _ ps wr o (((HL.1.keep0 s).keep0 a)) (HL.2.2 _ (gM f)) (by have h:=HL.out.2.1;rw[ac.out] at h;exact h));have Z:(j:Int)<(k:Int):=oM
   have G:=hid (show ms.take (j+1)=ms.take j++[ms[j]] from tA f);have E:=hid (gM f);obtain⟨mj,M⟩:=eX (ms[j]);rw[<-M] at b G E;clear Q ad R o J K y D O M Y;by_cases d:mj=ps
   .rw[decide_eq_true d] at b;subst d
    go_wp2_with (go_at_call 201;refine (show Calls _ _ _ _ _ from b).mono ?_;rintro r w' ⟨rfl,hK⟩)
    go_ret;exact⟨by rw[decide_eq_true E.out];rfl,(s.tr a).tr hK⟩
   .rw[decide_eq_false d] at b;have W:=hid d;clear d
    go_wp2_with (go_at_call 201;refine (show Calls _ _ _ _ _ from b).mono ?_;rintro r w' ⟨rfl,hK⟩)
    refine⟨⟨j+1,oM,by go_num,?_,a.tr hK⟩,by simp[intOf];omega⟩;show ps ∉ _;rw[G.out,List.mem_append,List.mem_singleton];exact λh=>h.elim F λh=>W h.symm
  .have Z:¬(j:Int)<(k:Int):=oM
   go_wp2;go_ret;refine⟨?_,s.tr a⟩;have h:=F.out;rw[tL (by have:=u.out;omega)] at h;rw[decide_eq_false h];rfl
theorem kC5(v)(ps)(w)(h:SPR w v ps)(D:Sorted ps)(C:∀ p∈ps,qC3 p)(P:ps.length<=100000):
  Calls prog 191 #[v] w λe w'=>e=.returned (.bool true)/\Kp [] w w':=by
 obtain⟨b,c,rfl⟩:=h.form;have H:=hid h;have u:=hid (And.intro D C);clear h D C;go_enter func191,ntmps191;go_wp2_with fail
 go_loopw [3] (λi wr=>∃ (j:Nat),j<=ps.length/\i=.int .i64 j/\Hid (Kp [] w wr)) (λi _=>ps.length-(intOf i).toNat)
 case atStart=>exact⟨0,zL _,rfl,Kp.refl _ _⟩
 case round=>
  obtain⟨j,N,rfl,f⟩:=hrel;by_cases r:j<ps.length
  .have J:(j:Int)<(ps.length:Int):=oM
   obtain⟨g,t,cap,cur,K,E,A,d,k⟩:=(H.keep0 f).at oM;simp only[vJ,true_and] at E;obtain⟨rfl,rfl⟩:=E;obtain⟨c0,o⟩:=k j r;have m:=ξ d (t+j*2);rw[c0] at m;have n:=ξ d (t+j*2+1);rw[o] at n;have L:=ζ d;obtain⟨p,l⟩:=eY (ps[j]);have a:=u.out.2 _ (gM r);rw[l] at m n a;have B:qH4 p.k=true:=by simp[qH4,a.1,a.2.1]
   have R:decide ((12:Int)<((p.v.size:Nat):Int))=false:=by have:=a.2.2;simp;omega
   have U:¬(12:Int)<((p.v.size:Nat):Int):=by have:=a.2.2;omega
   by_cases I:j=0
   .subst I;have G:decide ((0:Int)<(0:Int))=false:=dC
    simp only[Nat.zero_mul,Nat.add_zero] at m n;clear k c0 o d l a A
    go_wp2_with (go_at_call 198;refine (zB3 _ _).mono ?_;rintro e w' ⟨rfl,rfl⟩)
    try rw[B]
    go_quiet (fail)
    go_wp2;exact⟨⟨1,oM,by go_num,f.drewN _⟩,by simp[intOf];omega⟩
   .obtain⟨i,rfl⟩:∃ i,j=i+1:=⟨j-1,oM⟩;obtain⟨x,F⟩:=k i oM;have y:=ξ d (t+i*2);rw[x] at y;obtain⟨q,s⟩:=eY (ps[i]'oM);have O:Op.bytesLess q.k.toList p.k.toList=true:=by
     have z:=pG u.1 i (i+1) oM r oM;rw[s,l] at z;exact z
    rw[s] at y;have G:decide ((0:Int)<((i+1:Nat):Int))=true:=decide_eq_true oM;have Q:(0:Int)<((i+1:Nat):Int):=oM
    have T:wrap64 (((i+1:Nat):Int)-1)=(i:Int):=by simp only[wrap64];omega
    have M:(i:Int)<(ps.length:Int):=oM
    clear k c0 o x F d l s a A
    go_wp2_with (go_at_call 198;refine (zB3 _ _).mono ?_;rintro e w' ⟨rfl,rfl⟩)
    try rw[B]
    go_quiet (fail)
    go_wp2;exact⟨⟨i+1+1,oM,by go_num,f.drewN _⟩,by simp[intOf];omega⟩
  .have J:¬(j:Int)<(ps.length:Int):=oM
   go_wp2;go_ret;exact⟨rfl,f⟩
theorem kD5(w)(base p:Nat)(v v2)(n k:Nat)(ty)(xs f:List Value)(h:RowM w base v n xs)(a:RowM w p v2 k f)(E:n<=10000000000)(C:k<=10000000000)(r:base<=w.heap.size):
  ∃ b w',Sem.run prog (Builtin.append_ #[121,121] ty #[v,v2]) w=.ok b w'/\RowM w' base b (n+k) (xs++f)/\w.grownBy w' v.ownBlock:=by
 obtain⟨o,i,x,y,z⟩:=info_parts zG1;obtain⟨l,h⟩:=h;obtain⟨m,a⟩:=a;have D:=zI8 h;have s:=zI8 a;rcases a.2 with⟨q,c⟩|⟨g,cap,cur,c,F,G,H,I,J,K⟩
 .subst q;subst c;have e:=List.eq_nil_of_length_eq_zero s;subst e;exact⟨v,w,run_append_owned_none (P:=prog) (w:=w) base 121 ty 126 o 1 underlying121 i v n xs h,by rw[aN];exact⟨l,h⟩,World.grownBy.refl _ _⟩
 .subst c;obtain⟨b,w',t,A,B,L⟩:=run_append_own (P:=prog) w base 121 ty 126 o _ 1 24 underlying121 i x y z rfl dC v n _ h ⟨g,0,none⟩ k cap f oM (λj u d=>World.ownsRow.cells a (g:=g) rfl j u d) (xM8 m) (by unfold maxLen;omega) oM r;exact⟨b,w',t,⟨λu d=>(mA d).elim (l u) (m u),A⟩,B⟩
theorem kK6(base m d k b:Nat)(pm pw)(n:Int)(e wl bt:Bool)(w){t s:List Value}(E:RowM w base (.slice pm m d) m t)(a:RowM w base (.slice pw k b) k s)(ab:m<=5000000000)(aa:k<=100000):
  Calls prog 188 #[.agg #[.int .i64 n,.slice pm m d,.bool e,.slice pw k b,.bool wl,.bool bt]] w λr w'=>∃ pm' cm',r=.returned (.agg #[.int .i64 n,.slice pm' (m+k) cm',.bool true,.slice pw k b,.bool (wl || bt),.bool true])/\
   RowM w' w.heap.size (.slice pm' (m+k) cm') (m+k) (t++s)/\Kp [] w w':=by
 obtain⟨u,B,j,A,l,R⟩:=alC w (.cells #[ϊ n,.slice pm m d,.bool e,.slice pw k b,.bool wl,.bool bt] 123) (.cells #[ϊ 0,.slice none 0 0,.bool false,.slice none 0 0,.bool false,.bool false] 123)
 have F:=E.keep l (by intro k h;simp at h);obtain⟨v1,U,G,p,g⟩:=zT1 u base (.slice pm m d) m 121 _ F oM;obtain⟨T,K,rfl⟩:=p.form;have D:=(a.keep l (by intro k h;simp at h)).keep g (by intro k h;simp at h);obtain⟨v3,c,Q,q,C⟩:=kD5 U u.heap.size base (.slice T m K) (.slice pw k b) m k 121 _ _ p D oM oM g.size;obtain⟨H,x,rfl⟩:=q.form;have o:=g.grown C (λk a=>Or.inr (p.below k a));have z:=g.hp j;have f:=o.hp j;have i:=o.hp A;have I:=ξ j 1;have V:=ξ z 3;have q0:=ξ f;have W:=ψ f;have r0:=ξ i;have X:=ψ i;simp only[zG,zH,zI] at I V;have Y:=ζ f;have Z:=ζ i;have J:=hid (show RowM c w.heap.size (.slice H (m+k) x) (m+k) (t++s)/\Kp [] w c/\Ϙ c w.heap.size (.cells #[ϊ n,.slice pm m d,.bool e,.slice pw k b,.bool wl,.bool bt] 123)/\c.heap[w.heap.size+1]?=some (.cells #[ϊ 0,.slice none 0 0,.bool false,.slice none 0 0,.bool false,.bool false] 123) from⟨q.le oM,l.tr o,f,i⟩);rw[B] at G I;clear E a F p q g o C D z j f A i B l R;go_enter func188,ntmps188;cases bt
 all_goals
  go_wp2_with (at_builtin;first | ((with_reducible refine qS9 ?_ ?_ G ?_);rfl;rfl) | ((with_reducible refine qS9 ?_ ?_ Q ?_);rfl;rfl))
  obtain⟨L,M,N,y⟩:=J.out;have P:Apart c [w.heap.size,w.heap.size+1] 126:=λk a=>by
   rcases List.mem_cons.1 a with rfl|a
   .exact⟨_,_,_,N,dC⟩
   .rw[mS a];exact⟨_,_,_,y,dC⟩
  have O:=Kp.refl [w.heap.size,w.heap.size+1] c;have ac:w.heap.size<=w.heap.size+1:=oM
  refine bodyPost_ret (results_cell_row results188 _ _ (w.heap.size+1) 123 _ (0,0) _ rfl (μ (μ (μ (μ (μ (μ (by
   repeat (refine (qB2 oM _ _).trans ?_)
   exact y) 0 _) 1 _) 2 _) 3 _) 4 _) 5 _) underlying123 rfl kR) rfl ⟨H,x,sM,L.keep (S:=[w.heap.size,w.heap.size+1]) (by
   repeat (refine Kp.setCell ?_ sM _)
   exact O) P,by
   repeat (refine Kp.setCell ?_ (Or.inr sM) _)
   exact M⟩
end Go.Proofs.YtdohpenfkdckiaaGreatDoor
