import Derived.Test.YtdohpenfkdckiaaGreatDoorJ08
import Derived.Carry
import Derived.LaidEql
import Derived.Stop.Asserts
import Derived.RowKitTokens
set_option linter.all false
set_option maxRecDepth 100000
set_option maxHeartbeats 20000000
namespace Go.Proofs.YtdohpenfkdckiaaGreatDoor
open Go.Proofs.Tryz
open Go.RowKit
theorem jH1(d:Nat)(W):Sem.run prog (Op.equalIn (d+1) 85 (.pointer none) (.pointer none)) W=.ok true W:=by
 simp[Op.equalIn,run_underlying underlying85]
theorem jG1(V:Nat)(w):
  Calls prog 92 #[.agg #[.pointer (some ⟨V,0,none⟩),.string ⟨#[]⟩,.int .i64 0,.int .u64 0,.pointer none]] w λe a=>e=.returned (.bool true)/\Kp [] w a:=by
 have b:∀ W:World,Sem.run prog (Op.equalIn 9999 85 (.pointer none) (.pointer none)) W=.ok true W:=λW=>jH1 9998 W;go_enter func92,ntmps92;go_wp2;go_ret;exact⟨rfl,kF.alloc _⟩
theorem xA4(V:Nat)(w):
  Calls prog 144 #[.agg #[.pointer (some ⟨V,0,none⟩),.string ⟨#[]⟩,.int .i64 0,.int .u64 0,.pointer none]] w λe f=>e=.returned (.int .i64 0)/\Kp [] w f:=by
 go_enter func144,ntmps144;go_wp2_with fail;refine (jG1 V _).mono ?_;rintro e g ⟨rfl,a⟩;have d:g.heap[w.heap.size+1]?=some (.cells #[ϖ V,ϊ 0,.string { data:=#[] }] 293):=a.heap (by
  have e:=υ (w.alloc (.cells #[ϖ V,.string { data:=#[] },ϊ 0,.int .u64 0,.pointer none] 89)) (.cells #[ϖ V,ϊ 0,.string { data:=#[] }] 293);simpa using e) sM
 have c:=(((Kp.refl [] w).alloc _).alloc _).tr a;clear a;have b:=ξ d 1;simp at b;go_wp2;go_ret;exact⟨rfl,c⟩
variable {κ:Nat}
structure Sto where
 V:Nat
 M:Nat
 N:Int
 rb:Int
 rs:Int
 bl:Int
 po:Bool
 bg:Int
 wr:Int
def ν(lk:Int)(s:Sto):Obj:=
 .cells #[.int .i32 lk,.int .u32 0,.pointer (some ⟨s.V,0,none⟩),.int .u64 s.N,.int .i64 s.rb,.int .u64 s.rs,.int .i64 s.bl,.bool s.po,.int .u64 s.bg,.int .u64 s.wr,.map (some s.M)] 169
theorem zC2(V A n:Nat)(w)(a:w.heap[V]?=some (qE4 A n)):
  Calls prog 121 #[.pointer (some ⟨V,0,none⟩)] w λe c=>e=.returned (.int .i64 n)/\c=w:=by
 have b:=ξ a 1;simp at b;clear a;go_enter func121,ntmps121;go_wp2;go_ret;exact⟨rfl,rfl⟩
variable {κ:Nat}
theorem jC1(args)(W):Sem.run prog (callFunc 143 args) W=.ok (.enter 143 args) W:=by
 simp[go_sem,func143]
end Go.Proofs.YtdohpenfkdckiaaGreatDoor
namespace Go.Proofs.YtdohpenfkdckiaaGreatDoor
open Go.Proofs.Tryz
open Go.RowKit Go.Extern.Stop Go.Stop Go.Extern
def qF5:Value:=.iface 220 (.agg #[.pointer (some ⟨5,38,none⟩)])
theorem xY1(t)(w):(ReflectliteValue.unpack (.iface 95 (.pointer (some t)))).run prog w
  = .ok (.agg #[.pointer (some ⟨5,95,none⟩),.pointer (some ⟨w.heap.size,0,none⟩),.int .u64 150]) (w.alloc (.cells #[.pointer (some t)] 95)):=kR
theorem xX9(a)(w):(ReflectliteValue.methodAny (ReflectliteValue.valueError "reflectlite.Value.Type" 0) (λt _ _ _=>ReflectliteType.toType t) #[.agg #[.pointer (some ⟨5,95,none⟩),.pointer (some a),.int .u64 150]]).run prog w
  = .ok (.iface 220 (.agg #[.pointer (some ⟨5,95,none⟩)])) w:=kR
theorem xX4(h)(w):(Go.method 513 220 (.agg #[h]) "Kind").run prog w=.ok (322,h) w:=kR
theorem xX0(w):((ReflectliteType.abiMethod λt=>Functor.map (λa:Nat=>Value.int .u8 (a:Int)) (Rtype.kind t)) #[.pointer (some ⟨5,95,none⟩)]).run prog w=.ok (.int .u8 22) w:=kR
theorem xW9(w):((ReflectliteType.abiMethod λt=>Functor.map (λa:Nat=>Value.int .u8 (a:Int)) (Rtype.kind t)) #[.pointer (some ⟨5,45,none⟩)]).run prog w=.ok (.int .u8 2) w:=kR
theorem zW7(a)(w):(ReflectliteValue.parts (.agg #[.pointer (some ⟨5,95,none⟩),.pointer (some a),.int .u64 150])).run prog w=.ok (some (95,a,150)) w:=kR
theorem xW8(a p)(W)(b:W.cell? a=some (.pointer (some p))):
  (ReflectliteValue.method (ReflectliteValue.valueError "reflectlite.Value.IsNil" 0) ReflectliteValue.isNil #[.agg #[.pointer (some ⟨5,95,none⟩),.pointer (some a),.int .u64 150]]).run prog W=.ok (.bool false) W:=by
 show Sem.run prog (Bind.bind (ReflectliteValue.parts (.agg #[.pointer (some ⟨5,95,none⟩),.pointer (some a),.int .u64 150])) _) W=_;simp only[Sem.run_bind,zW7,Result.andThen];simp[ReflectliteValue.isNil,loadVar,isAgg,underlying,underlying95,b,Result.andThen]
theorem xX2(h)(w):(Go.method 513 220 (.agg #[h]) "Elem").run prog w=.ok (344,.agg #[h]) w:=kR
theorem xX3(h)(w):(Go.method 513 220 (.agg #[h]) "Implements").run prog w=.ok (345,.agg #[h]) w:=kR
theorem xX1(h)(w):(Go.method 513 220 (.agg #[h]) "AssignableTo").run prog w=.ok (342,.agg #[h]) w:=kR
theorem zW6(p)(w):(Go.method 513 243 (.pointer (some p)) "Unwrap").run prog w=.ok (353,.pointer (some p)) w:=kR
theorem xW4(w):(ReflectliteType.method ReflectliteType.elem #[.agg #[.pointer (some ⟨5,95,none⟩)]]).run prog w=.ok (.iface 220 (.agg #[.pointer (some ⟨5,45,none⟩)])) w:=kR
theorem xW7(w):(ReflectliteType.relation "Implements" ReflectliteType.implements_ #[.agg #[.pointer (some ⟨5,45,none⟩)],.iface 220 (.agg #[.pointer (some ⟨5,38,none⟩)])]).run prog w=.ok (.bool true) w:=kR
theorem xY0(v)(w):(ReflectliteType.typeOf #[.iface 243 v]).run prog w=.ok (.iface 220 (.agg #[.pointer (some ⟨5,243,none⟩)])) w:=kR
theorem zW8(v)(w):(ReflectliteType.typeOf #[.iface 45 v]).run prog w=.ok (.iface 220 (.agg #[.pointer (some ⟨5,45,none⟩)])) w:=kR
theorem xW2(w):(ReflectliteType.relation "AssignableTo" ReflectliteType.assignableTo #[.agg #[.pointer (some ⟨5,243,none⟩)],.iface 220 (.agg #[.pointer (some ⟨5,45,none⟩)])]).run prog w=.ok (.bool false) w:=kR
theorem xW1(w):(ReflectliteType.relation "AssignableTo" ReflectliteType.assignableTo #[.agg #[.pointer (some ⟨5,45,none⟩)],.iface 220 (.agg #[.pointer (some ⟨5,45,none⟩)])]).run prog w=.ok (.bool true) w:=kR
theorem xY2(k:Int)(w):(ReflectliteValue.unpack (.iface 45 (.int .i64 k))).run prog w
  = .ok (.agg #[.pointer (some ⟨5,45,none⟩),.pointer (some ⟨w.heap.size,0,none⟩),.int .u64 130]) (w.alloc (.cells #[.int .i64 k] 45)):=kR
theorem xW5(w):(Rtype.elem? 95).run prog w=.ok (some 45) w:=kR
theorem xX5(p)(w):(ReflectliteValue.mk 45 p ReflectliteValue.flagAddr).run prog w=.ok (.agg #[.pointer (some ⟨5,45,none⟩),.pointer (some p),.int .u64 386]) w:=kR
theorem xW6(a p)(W)(b:W.cell? a=some (.pointer (some p))):
  (ReflectliteValue.method (ReflectliteValue.valueError "reflectlite.Value.Elem" 0) ReflectliteValue.elem #[.agg #[.pointer (some ⟨5,95,none⟩),.pointer (some a),.int .u64 150]]).run prog W
   = .ok (.agg #[.pointer (some ⟨5,45,none⟩),.pointer (some p),.int .u64 386]) W:=by
 show Sem.run prog (Bind.bind (ReflectliteValue.parts (.agg #[.pointer (some ⟨5,95,none⟩),.pointer (some a),.int .u64 150])) _) W=_;simp only[Sem.run_bind,zW7,Result.andThen];simp[ReflectliteValue.elem,loadVar,isAgg,underlying,underlying95,b,Result.andThen,xW5,xX5]
theorem xX6(a)(w):(ReflectliteValue.parts (.agg #[.pointer (some ⟨5,45,none⟩),.pointer (some a),.int .u64 386])).run prog w=.ok (some (45,a,386)) w:=kR
theorem xX7(a)(w):(ReflectliteValue.parts (.agg #[.pointer (some ⟨5,45,none⟩),.pointer (some a),.int .u64 130])).run prog w=.ok (some (45,a,130)) w:=kR
theorem xW3(w):(Rtype.directlyAssignable 45 45).run prog w=.ok true w:=kR
theorem xX8(ta b)(k:Int)(old)(W)(a:W.cell? b=some (.int .i64 k))(d:W.cell? ta=some old)(c:W.frozen? ta=false):
  (ReflectliteValue.set #[.agg #[.pointer (some ⟨5,45,none⟩),.pointer (some ta),.int .u64 386],.agg #[.pointer (some ⟨5,45,none⟩),.pointer (some b),.int .u64 130]]).run prog W
   = .ok (.tuple #[]) (W.setCell ta (.int .i64 k)):=by
 show Sem.run prog (Bind.bind (ReflectliteValue.parts (.agg #[.pointer (some ⟨5,45,none⟩),.pointer (some ta),.int .u64 386])) λq=>Bind.bind (ReflectliteValue.parts (.agg #[.pointer (some ⟨5,45,none⟩),.pointer (some b),.int .u64 130])) _) W=_;simp only[Sem.run_bind,xX6,xX7,Result.andThen];simp[ReflectliteValue.flagAddr,loadVar,isAgg,underlying,underlying45,a,Result.andThen,xW3,storeVar,Value.cells,storeCells,Addr.add];rw[run_store prog W ta _ _ (by rfl)];simp[d,c]
end Go.Proofs.YtdohpenfkdckiaaGreatDoor
namespace Go.Proofs.YtdohpenfkdckiaaGreatDoor
open Go.Proofs.Tryz
open Go.RowKit
def qT2:(n:Nat)→Tn n→Prop
 | 0,_=>True
 | n+1,t=>2≤(η t).length∧∀ l∈η t,qT2 n l.sub
theorem zN7:∀ (n:Nat) (lo) (t),Good n lo t->min n 1<cnt n t->qT2 n t
 | 0,_,_,_,_=>trivial
 | n+1,lo,t,h,hc=>by
  have b:min (n+1) 1<(η t).length:=hc;exact⟨oM,λl a=>zN7 n l.key l.sub (h.all l a).1 (by have:=(h.all l a).2.1;omega)⟩
def zC5(w:World)(S:List Nat):Prop:=∀ k∈S,∀ c t fr,w.heap[k]?=some (.cells c t fr)→t ∉ qF1∨(t=87∧c.size≤4)
theorem kF4{S}{w w'}(hK:Kp S w w')(k:zC5 w S){v}{hs}(h:Slc w 87 4 v hs.length (qA9 hs))(o:2<=hs.length):Slc w' 87 4 v hs.length (qA9 hs):=by
 refine⟨h.len,?_⟩;rcases h.val with h|⟨g,m,cap,cur,e,f,_,j,a,b⟩
 .exact .inl h
 .refine .inr ⟨g,m,cap,cur,e,f,oM,j,hK.heap a (λl=>?_),b⟩;rcases k g l _ _ _ a with c|⟨_,c⟩
  .exact c dC
  .obtain⟨d,_⟩:=qW4 (ls:=hs) (i:=1) oM;have n:=(Array.getElem?_eq_some_iff.1 (b _ _ d)).1;omega
theorem RN.keepW{O:qE8}{S}{w w'}(hK:Kp S w w')(j:zC5 w S):∀ (n:Nat) (q:Nat) (t),qT2 n t->RN O n w q t->RN O n w' q t
 | 0,q,t,_,h=>by
  obtain⟨C,d,f⟩:=h;have p:∀ (k:Nat) (c:Array Value) (t:TypeId) (b:Nat × Nat),Ϙ w k (.cells c t b)->t∈qF1->t≠87->k ∉ S:=λk c t b e ht hne m=>by
   rcases j k m c t b e with a|⟨a,_⟩
   .exact a ht
   .exact hne a
  refine⟨C,hK.heap d (p q _ _ _ d dC dC),f.len,?_⟩;rcases f.val with h|⟨g,A,cap,cur,b,v,x,y,r,z⟩
  .exact .inl h
  .exact .inr ⟨g,A,cap,cur,b,v,x,y,hK.heap r (p g _ _ _ r dC dC),z⟩
 | n+1,q,t,hw,h=>by
  obtain⟨B,d,u,f,l⟩:=h;refine⟨B,hK.heap d (λm=>?_),u,kF4 hK j f (by rw[l.1];exact hw.1),l.1,λi s o=>(l.2 i s o).mono (λq hq=>RN.keepW hK j n q _ (hw.2 _ (gM o)) hq) (λ_ _ h=>h)⟩;rcases j q m _ _ _ d with a|⟨a,_⟩
  .exact a dC
  .cases a
theorem RL.keepW{O:qE8}{S}{w w'}{n:Nat}{h}{l}(c:RL O n w h l)(hK:Kp S w w')(a:zC5 w S)(d:qT2 n l.sub):RL O n w' h l:=c.mono (λq b=>RN.keepW hK a n q _ d b) (λ_ _ h=>h)
theorem kO5(E:Env)(n:Nat)(r:HL)(v:Value)(l m:Lnk (Tn n))(w:World)(hd:E.Dev w)(hr:RLs E.O n w v [l,m])(hn:n<=100000)(bz:l.ref=none)(hk:l.key.size<=8/\m.key.size<=8)(b2:qT2 n l.sub)(b3:qT2 n m.sub):
  Calls prog 103 #[τ E.V r,v] w λe w'=>∃ h,e=.returned (τ E.V h)/\RL E.O (n+1) w' h ⟨⟨#[]⟩,none,[l,m]⟩/\E.To w w':=by
 have a4:meas qA2 [l,m]<=126:=by simp[meas,qA2];omega
 have ax:qC9 n ⟨#[]⟩ [l,m]=[⟨⟨#[]⟩,none,[l,m]⟩]:=by
  unfold qC9 qB8;rw[if_pos a4];rfl
 have a7:∀ x∈[l,m],qA2 x<=21:=by
  intro x d;simp only[mC,lN,or_false] at d;unfold qA2;rcases d with rfl|rfl<;>omega
 have bn:=zh hr;obtain⟨hs,be,T⟩:=hr;have D:hs.length=2:=T.1;obtain⟨gb,H,cp,cur,fr,rfl,ce,s,ay⟩:=be.link oM;obtain⟨x,J,d⟩:∃ x J,hs=[x,J]:=by
  match hs,D with
  | [x,J],_=>exact⟨x,J,rfl⟩
 subst d;obtain⟨c0,c1,c2,N⟩:=ay 0 sM;have bd:RL E.O n w x l:=T.2 0 sM sM;rcases bd.new with⟨_,q,bb,bc⟩|⟨d,_⟩
 .have a9:x.ptr=some ⟨q,0,none⟩:=by simp[HL.ptr,bb]
  simp only[zF,Nat.zero_mul,Nat.add_zero] at c0 c1 c2 N;rw[a9] at N;have K:=zh hd;have bj:=zh ax;have ae:Hid ((∀ x∈[l,m],qA2 x<=21)/\meas qA2 [l,m]<=210):=⟨a7,oM⟩;have HW:Hid (qT2 (n+1) [l,m]):=⟨by show 2<=2;omega,λz G=>by
   have G:z∈[l,m]:=G;simp only[mC,lN,or_false] at G;rcases G with rfl|rfl<;>assumption⟩
  obtain⟨pb,pl,pc,lb,ll,lc,F,_⟩:=bc.obj;obtain⟨a,a6⟩:∃ a:Int,(n:Int)=a:=⟨_,rfl⟩;rw[a6] at F;have ci:0<=a/\a<=100000:=oM
  have bk:Hid (a+1=((n+1:Nat):Int)):=by show _=_;omega
  have ck:=ζ F;have o0:∀ A B C:Obj,(((w.alloc A).alloc B).alloc C).cell? ⟨q,0,none⟩=some (ϊ a):=λA B C=>(ξ (ρ _ (ρ _ (ρ _ F))) 0).trans sM;have cj:IntKind.i64.wrap (a+1)=a+1:=by rw[wK];omega
  have cg:=ζ s;have a0:=ξ s H;rw[c0] at a0;have a1:=ξ s (H+1);rw[c1] at a1;have a2:=ξ s (H+2);rw[c2] at a2;have a3:=ξ s (H+3);rw[N] at a3;clear T be ay bd bc hd a9 bb D a6 ax a7 a4 hk b2 b3;rw[τ];go_enter func103,ntmps103;go_wp2_with fail;obtain⟨w0,bg,ag,am,aj,Q,cm⟩:=alD w (.cells (ϟ E.V r) 89) (.cells ϛ 89) (.cells #[.string x.key,ϊ x.b,.int .u64 x.s,ϖ q] 87)
  rw[<-bg];clear bg;have ar:=Env.To.of0 K Q;refine (zD9 E.O n (a+1) bk ⟨#[]⟩ _ [l,m] w0 (Env.RLs bn K ar) sM ae.1 ae.2).mono ?_;rintro e w1 ⟨v1,rfl,an,j⟩;rw[bj.out] at an;obtain⟨ac,bf,V⟩:=an;obtain⟨y,hy⟩:∃ y,ac=[y]:=by
   have D:ac.length=1:=V.1
   match ac,D with
   | [y],_=>exact⟨y,rfl⟩
  subst hy;obtain⟨gy,I,cy,b6,b7,rfl,cf,g,az⟩:=bf.link sM;obtain⟨y0,y1,y2,y3⟩:=az 0 sM;simp only[zF,Nat.zero_mul,Nat.add_zero] at y0 y1 y2 y3;have aa:RL E.O (n+1) w1 y ⟨⟨#[]⟩,none,[l,m]⟩:=V.2 0 sM sM;obtain⟨X,b1⟩:=id aa;obtain⟨U,ab,q',Z,al⟩:=b1;have b4:y=⟨⟨#[]⟩,0,0,some q'⟩:=by
   obtain⟨ya,yb,yc,yd⟩:=y;simp only at X U ab Z;subst X U ab Z;rfl
  subst b4;have ba:HL.ptr ⟨⟨#[]⟩,0,0,some q'⟩=some ⟨q',0,none⟩:=rfl;rw[ba] at y3;simp only at y0 y1 y2;have ch:=ζ g;have s0:=ξ g I;rw[y0] at s0;have s1:=ξ g (I+1);rw[y1] at s1;have s2:=ξ g (I+2);rw[y2] at s2;have s3:=ξ g (I+3);rw[y3] at s3;have ai:=Q.tr j;have au:=Env.To.of0 K ai;have u:=j.hp ag;have o:=j.hp am;have k:=j.hp aj;have b8:=ζ u;have cc:=ζ o;have ca:=ζ k;have b0:=ϻ u 0;have l0:=ξ k;have bs:=ψ k;have r0:=ξ o;have af:=ψ o;have bo:=zh aa;have bl:=zh al;have bq:=zh au;have bm:=zh o;have L:=zh k;have bi:=zh u;clear bf V az aa al Z ba X U ab u o k au ai j ar Q ag am aj a0 a1 a2 a3 o0 F g;go_wp2_with fail;have a5:=zP9 (.string ⟨#[]⟩) (ϊ 0) (.int .u64 0) (ϖ q') L.out;obtain⟨w2,bh,ak,f⟩:=gE a5;rw[<-bh];clear bh a5 b0 l0 bs r0 af s0 s1 s2 s3;have O:zC5 w1 [w.heap.size+1+1]:=λi W c t bt e=>by
   rw[mS W,L.out] at e;cases e;exact .inr ⟨rfl,sM⟩
  have S:=RN.keepW f O (n+1) q' _ HW bl.out;have ao:=f.hp bm.out;have ah:=f.ho bi.out;have av:=bq.out.store' oM L dC f;have ap:=RL.keepW bo f O HW.out;refine (qU2 E.O (n+1) q' [l,m] w2 S (by show 2<=1000000;omega)).mono ?_;rintro e w3 ⟨rfl,b⟩;rw[show cnt (n+1) [l,m]=2 from rfl];obtain⟨cq,cs,cr,cn,b5,co,Y,bw,_,a8⟩:=(RN.keep b (Apt.nil _ _) (n+1) q' _ S).obj2;have bx:b5=2:=(a8 oM).trans rfl;have p:=b.hp ao;have P:=b.hp ah;have R:=b.hp ak;have aw:=av.tail b;have aq:=RL.keep ap b (Apt.nil _ _);subst bx;have cl:=ζ Y;have b9:=ζ P;have cd:=ζ p;have cb:=ζ R;have o2:=ξ Y 2;simp only[χ,zG,zH,zI] at o2;have b0:=ϻ P 0;have l0:=ξ R;have r0:=ξ p;have af:=ψ p;have M:=zh p;have br:=zh aw;have bp:=zh aq;clear Y P R p aw aq ap av S ao ah ak f b O bw a8;go_wp2;have ad:=qM7 (ϖ E.V) (.string ⟨#[]⟩) (ϊ 0) (.int .u64 0) (ϖ q') M.out;have bv:=br.out.store' oM M dC ad.2;have bu:Apt w3 [w.heap.size+1] qF1:=λi W c t bt e=>by
   rw[mS W,M.out] at e;cases e;decide
  exact bodyPost_ret (results_cell_row results103 _ _ (w.heap.size+1) 89 #[ϖ E.V,.string ⟨#[]⟩,ϊ 0,.int .u64 0,ϖ q'] (0,0) _ rfl ad.1 underlying89 rfl kR) rfl ⟨⟨⟨#[]⟩,0,0,some q'⟩,rfl,RL.keep bp ad.2 bu,bv⟩
 .rw[bz] at d;cases d
end Go.Proofs.YtdohpenfkdckiaaGreatDoor
