import Derived.Test.YtdohpenfkdckiaaGreatDoorJ15
set_option linter.all false
set_option maxRecDepth 100000
set_option maxHeartbeats 0
namespace Go.Proofs.YtdohpenfkdckiaaGreatDoor
open Go.Proofs.Tryz Go.RowKit
namespace Gf
open Gw (TK Books CI CD Muts MutC DInv CO DStep)
open Go.ChangeMaps
def Tq{base i:Nat}{T:Int}{w}{q:SG}{y:YG}{g:TG}{r}(h:At base T w g q r i y):CSt base T w g 135 #[ϖ g.B,ϖ y.tb,ϐ true]:=by
 by_cases a:q.s.po=false/\y.t.over=false/\y.t.wrt=true
 .exact Tt h a.1 a.2.1 a.2.2
 .exact ER h true λ_ c b=>by simpa [c,b] using a
def GU:List Int:=[5,6,7,8,10,11,12,13,14,15,16,17,18,19,20]
def YZ(base:Nat)(T:Int)(w)(g:TG)(q:SG)(r)(i:Nat)(y:YG)(h:At base T w g q r i y)(o:SOp)(hk:o.k=13\/o.k=14\/o.k=15\/o.k=16\/o.k=17\/o.k=18\/o.k=19\/o.k=20)(hf:Gw.SFits o):
  Ω 83 #[ϖ g.B,ϖ y.tb,.agg #[ϊ o.k,ϊ o.x,ϊ o.y,ϊ o.a,ϊ o.b,ϕ o.s,ϕ o.t]] w λe w'=>e=ϱ (ϐ true)/\DStep AK base (T+2) w w' g:=by
 have v:Hid (∀{p:Prop},(_h:p:=by
  rintro e Z ⟨rfl,B⟩;have N:Hid (DStep AK base (T+2) w Z g):=DStep.from ((Kp.refl _ _).alloc _) B h.ok.qN9;clear B;go_wp2;go_ret;exact⟨rfl,N⟩)->p):=λh=>h
 let⟨k,l,n,d,j,os,f⟩:=o;have M:=zh hf;have s:Hid (At base T (w.alloc (ϲ #[ϊ k,ϊ l,ϊ n,ϊ d,ϊ j,.string os,.string f] 66)) g q r i y):=h.same ((Kp.refl _ _).alloc _);simp only at hk;clear hf;rcases hk with rfl|rfl|rfl|rfl|rfl|rfl|rfl|rfl
 .go_enter func83,ntmps83;go_wp2_with fail;refine(show Calls _ _ _ _ _ from qA2 s os f).mono ?_;exact v.out
 .go_enter func83,ntmps83;go_wp2_with fail;refine(show Calls _ _ _ _ _ from UL s os f).mono ?_;exact v.out
 .go_enter func83,ntmps83;go_wp2_with fail;refine(show Calls _ _ _ _ _ from FL s os).mono ?_;exact v.out
 .have A:=M.out.a;simp only at A;go_enter func83,ntmps83;go_wp2_with fail;refine(show Calls _ _ _ _ _ from qC9 s os f d A).mono ?_;exact v.out
 .go_enter func83,ntmps83;go_wp2_with fail;refine(show Calls _ _ _ _ _ from Tq s).mono ?_;exact v.out
 .go_enter func83,ntmps83;go_wp2_with fail;refine(show Calls _ _ _ _ _ from ER s false (λe=>by cases e)).mono ?_;exact v.out
 .go_enter func83,ntmps83;go_wp2_with fail;refine(show Calls _ _ _ _ _ from ZX s).mono ?_;exact v.out
 .have HH:=zh h;have F:Hid ((w.alloc (ϲ #[ϊ 20,ϊ l,ϊ n,ϊ d,ϊ j,.string os,.string f] 66)).heap[w.heap.size]?=some (ϲ #[ϊ 20,ϊ l,ϊ n,ϊ d,ϊ j,.string os,.string f] 66)):=μ _ _;have u:Hid (Kp [] w (w.alloc (ϲ #[ϊ 20,ϊ l,ϊ n,ϊ d,ϊ j,.string os,.string f] 66))):=(Kp.refl _ _).alloc _;have C:=h.yy.hT;have ap:=U C;have E:=Y C 8;simp only[tob,zG,zH,zI]at E;let⟨pt,G,D,X⟩:=PRow.of h.yy.qP7;have aq:=h.yy.qQ0;have ao:=h.T1;have ah:(BZ y).length=y.cs.length:=by simp[BZ]
  rw[ah]at D;rw[D]at E;by_cases hz:y.cs.length=0
  .have HQ:=zh (h.quiet (u.hp h.S.hSt) (Dn.qM4 h.ok.d.dev u) (u.mono sM));rw[hz]at E;clear X D C h;go_enter func83,ntmps83;go_wp2;go_ret;exact⟨rfl,HQ⟩
  obtain⟨x,O,rfl,P,ad⟩:=X oM;have am:¬((y.cs.length:Int)=0):=oM
  let⟨m,I⟩:=eY y.cs.length;rw[I]at E am hz;have ai:=U P;have af:Hid (y.f.cs=.slice (some (ϰ x 0)) m G):=by rw[<-I];exact D
  have ae:Hid (∀i (h:i<m),O[i]?=some (ϖ ((y.cs[i]'oM).cb))):=λi h=>by
   have:=ad i oM;simp only[BZ,List.getElem_map]at this;exact this
  have aa:=zh (u.hp P);have ab:=zh (u.hp C);have R:=M.out.a;have A:=M.out.b;have ar:m<=100000:=oM
  simp only at R A;clear X D C h ad P;go_enter func83,ntmps83;go_wp2_with fail;have Q:∀V:World,V.heap[y.tb]?=some (tob y.f)->V.cell? (ϰ y.tb 8)=some (.slice (some (ϰ x 0)) m G):=λV hV=>by
   have c:=Y hV 8;simp only[tob,zG,zH,zI]at c;rw[c,af.out]
  let⟨W,H⟩:=eX (w.alloc (ϲ #[ϊ 20,ϊ l,ϊ n,ϊ d,ϊ j,.string os,.string f] 66));rw[<-H]at F u aa ab s;rw[<-H];have an:Hid (W.heap.size=w.heap.size+1):=by show W.heap.size=_;rw[H];simp
  clear H;have b:W.drew.heap[y.tb]?=some (tob y.f)/\W.drew.heap[w.heap.size]?=some (ϲ #[ϊ 20,ϊ l,ϊ n,ϊ d,ϊ j,.string os,.string f] 66)/\W.drew.heap[x]?=some (ϲ O 203):=⟨ab,F,aa⟩;refine wp_region_held_drew (S:=λW=>W.heap[y.tb]?=some (tob y.f)/\W.heap[w.heap.size]?=some (ϲ #[ϊ 20,ϊ l,ϊ n,ϊ d,ϊ j,.string os,.string f] 66)/\W.heap[x]?=some (ϲ O 203)) kR b (λ_=>?_);refine zP 0 y.tb 0 b ?_;refine zP 1 y.tb 0 b ?_;refine zP 2 y.tb 8 b ?_;refine zV 3 (.slice (some (ϰ x 0)) m G) rfl (λW a=>by have c:=Q _ a.1;clear a;go_simp) b ?_;refine zP 4 w.heap.size 3 b ?_;refine zV 5 (ϊ d) rfl (λW a=>by have c:=Y a.2.1 3;simp at c;clear a;go_simp) b ?_;refine zP 6 y.tb 0 b ?_;refine zP 7 y.tb 0 b ?_;refine zP 8 y.tb 8 b ?_;refine zV 9 (.slice (some (ϰ x 0)) m G) rfl (λW a=>by have c:=Q _ a.1;clear a;go_simp) b ?_;refine zU 10 (ϊ m) b ?_;refine zq 11 λK hK=>?_;go_simp;refine(EG d m _ R.1 R.2 oM oM).mono ?_;rintro e Z ⟨z,rfl,ak,rfl⟩;refine zk hK b ?_
  refine zU 12 (.pointer (some (ϰ x z))) b ?_;refine zV 13 (ϖ ((y.cs[z]'oM).cb)) rfl (λW a=>by have c:=Y a.2.2 z;rw[ae.out z ak]at c;clear a;go_simp) b ?_;refine zU 14 (ϖ ((y.cs[z]'oM).cb)) b ?_;refine zd ?_;clear b Q E ai;go_wp2_with fail;have t:W.drew.drew.heap[w.heap.size]?=some (ϲ #[ϊ 20,ϊ l,ϊ n,ϊ d,ϊ j,.string os,.string f] 66):=F.out;refine wp_region_held_drew (S:=λW=>W.heap[w.heap.size]?=some (ϲ #[ϊ 20,ϊ l,ϊ n,ϊ d,ϊ j,.string os,.string f] 66)) kR t (λ_=>?_);refine zP 0 g.B 0 t ?_;refine zP 1 y.tb 0 t ?_;refine zU 2 (ϖ ((y.cs[z]'oM).cb)) t ?_;refine zP 3 w.heap.size 4 t ?_;refine zV 4 (ϊ j) rfl (λW a=>by have c:=Y a 4;simp at c;clear a;go_simp) t ?_;refine zP 6 w.heap.size 5 t ?_;refine zV 7 (.string os) rfl (λW a=>by have c:=Y a 5;simp at c;clear a;go_simp) t ?_;refine zq 5 λK hK=>?_;go_simp;refine(EG j 5 _ A.1 A.2 oM oM).mono ?_;rintro e Z ⟨al,rfl,aj,rfl⟩;refine zk hK t ?_
  refine zq 8 λK hK=>?_;go_simp;refine(show Calls _ _ _ _ _ from YF (s.same ((Kp.refl [] _).drew.drew)) z oM al aj os).mono ?_;rintro e w3 ⟨rfl,B⟩;have N:=zh (DStep.from u.drew.drew B HH.ok.qN9);have ac:w3.heap[w.heap.size]?=some (ϲ #[ϊ 20,ϊ l,ϊ n,ϊ d,ϊ j,.string os,.string f] 66):=by
   let⟨g',L,_,_,_,ag,hL⟩:=B;refine ag.heap F (λI=>?_);have:=HH.out.ok.qN9.lt (hL _ I);omega
  refine hK.out _ _ ac (λ_=>?_);clear hK K B
  try simp only[zZ]
  refine zU 9 (.bool true) ac ?_;refine zd ?_;go_wp2;go_ret;exact⟨rfl,N⟩
def Vn(ks:List Int)(B:∀k∈ks,13<=k->k<=20):Gw.DOps AK ks where
 fmt:=λbase T w g h b a c d f=>VQ h b a c d f
 opn:=λbase T w g h b a c d f=>Zj h b a c d f
 beg:=λbase T w g h b a c d f i C=>RS h b a c d f i C
 txn:=λbase T w g h b a c d f i j x o z A v=>by
  let⟨q,r,l,t,s,p,n,m,u⟩:=TOk.store h i;have y:j<g.ys.length:=by simpa [AK,Ba] using x
  have D:=B _ A z;have:=YZ base T w g q r j g.ys[j] ⟨h,b,a,c,d,f,l,t,s,p,n,m,u,y,rfl⟩ o oM v;have e:(AK.tbs g)[j]=g.ys[j].tb:=by simp[AK,Ba]
  rw[e];exact this
 looks:=λbase T w g h b a=>look_ok h oM a
def Vo(ks:List Int)(d:∀k∈ks,k=5\/k=6\/k=7\/k=8\/(10<=k/\k<=20)):Gw.IT AK ks:=Gw.qF5 AK ks (λk c=>by
 have h:=d k c;by_cases g:k=5
 .subst g;exact .inl ⟨oM,oM,Gw.TB AK⟩
 by_cases i:k=6\/k=7\/k=8
 .exact .inl ⟨oM,oM,λbase e T f x y a b s t w h j o l m n=>Zq base e T f k x y a b s t w h j o l m n i⟩
 exact .inr oM) (Vn ks λk c _=>by have:=d k c;omega)
def Ue(p:Ϭ)(n cap:Nat)(f:Nat→SOp)(w:Ϣ)(hS:Script w p n f)(hf:∀i,i<n→Gw.SFits (f i))(h0:0<w.heap.size)(hg:Gw.Gg w):
  Ω 8 #[.slice p n cap] w fun e w'=>e=ϱ (ϐ true)∧Kp [] w w':=by
 have hK0:Kp [] w (w.alloc (.cells (GU.map (.int .i64)).toArray 3)):=(Kp.refl _ _).alloc _;go_enter func8,ntmps8;go_wp2_with fail;refine(Gw.ZR GU 15 (by decide) rfl (fun p n cap f w=>Gw.qI9 AK GU (Vo GU (by decide)) p n cap f w) p n cap f _ (hS.qM3 hK0) hf (by simp) (hg.same hK0 h0) w.heap.size (μ _ _)).mono ?_;rintro e w1 ⟨rfl,hK1⟩;go_wp2;go_ret;exact⟨rfl,hK0.tr hK1⟩
end Gf
namespace Gw
open Go.ChangeShapes Go.WideShapes Go.RowKit Go.Deep
def TS{W:Ϣ}(h:laidMetH prog Rows.faultsRow.laid W):W.cell? (ϰ 0 0)=some Bd:=by
 have h':laidMet prog (Rows.faultsRow.laid.filter fun x=>x.2.handleName?.isNone) W∧handlesMet prog [("errors.errorType",Rows.laid_errors_errorType)] W:=h;obtain⟨name,u,ty,e1,e2,e3,e4,e5⟩:=h'.2 _ (List.mem_singleton.2 rfl);have en:name=[101,114,114,111,114]:=(Option.some.inj e1).symm;subst en;obtain rfl:=Option.some.inj (qB6.symm.trans e2);have hm:ty∈(List.range 413).filter fun t=>prog.rowNamed t [101,114,114,111,114]:=List.mem_filter.2 ⟨List.mem_range.2 (by rw[←qB7];exact e3),e4⟩;rw[Gr]at hm;obtain rfl:=List.mem_singleton.1 hm;have hh:typeHandle prog 38=.pointer (some ⟨5,38,none⟩):=by kernel_rfl
 rw[hh]at e5;simpa [Bd] using World.var?_cell qB3 e5 0
def Uz(os:Os)(H:Type)(enc:Ϯ×Value→H):
  ∃(w:Ϣ)(tape:Tape)(i:Input),w.os=os∧(w.forCall tape i).Shaped prog∧i.vars=[]∧Input.okWide prog (w.forCall tape i) .any w.heap.size 8 i∧
   ((Rows.faultsSpec.pre enc prog f8 [] false (w.forCall tape i).memory i.args∧laidMetH prog Rows.faultsRow.laid (w.forCall tape i).memory)∧sizedMet enc prog f8 (OpenSpec.ofChange Rows.faultsSpec) false (w.forCall tape i).memory i.args)∧({}:Assume).holds prog (lone (Frame.enter prog 8 i.args .normal) [] (w.forCall tape i)):=
 ChangeSpec.witness_at (enc:=enc) (C:=checked) (os:=os) (X:=fun w _=>laidMetH prog Rows.faultsRow.laid w) false ({ World.laidAll prog os (Rows.faultsRow.laid.filter fun x=>x.2.handleName?.isNone) with heap:=(World.laidAll prog os (Rows.faultsRow.laid.filter fun x=>x.2.handleName?.isNone)).heap.modify 0 fun o=>match o with | .cells _ t frozen=>.cells #[Bd] t frozen | o=>o }) #[.slice none 0 0] 8 rfl (by kernel_rfl) (by kernel_rfl) (by kernel_rfl) (by kernel_rfl) (by kernel_rfl) (laidMetH_of_parts (laidMet_of_run' 8 (by kernel_rfl) (by kernel_rfl)) (by kernel_rfl))
end Gw
namespace Gw
open Go Go.ChangeShapes Go.WideShapes Go.RowKit Go.Deep
def TU(os:Os)(started:os.Started)(H:Type)(enc:Ϯ×Value→H):
  ReturnsInHanded {} checked os 8 .any (fun w args=>(Rows.faultsSpec.pre enc prog f8 [] false w args∧laidMetH prog Rows.faultsRow.laid w)∧sizedMet enc prog f8 (OpenSpec.ofChange Rows.faultsSpec) false w args)
   (Rows.faultsSpec.post enc prog f8 false true false false):=by
 refine XU (C:=checked) (X:=fun w _=>laidMetH prog Rows.faultsRow.laid w) (fun _ _ _ hh h=>h.of_heap hh) qB5 started (by kernel_rfl) func8 (Uz os H enc) ?_;intro W base args ds gs before hval0 hW hL hsh;have hval:∀(j:Nat) t v,f8.params[j]?=some t→args[j]?=some v→Value.okWide prog W .any base t v:=hval0;have hW':=hW;obtain⟨p,q,hA0,hV,rfl,_,_⟩:=hW;have hA:DataW.TrodAll enc prog W 0 (fun _=>true) true f8.params.toList args.toList ds p:=hA0;rw[params8]at hA hval;obtain⟨v0,d0,rfl,rfl,h0⟩:=trodAll_one hA;obtain⟨rfl,rfl⟩:=trodVars_none hV;have h0k:=h0;obtain⟨fuel,hf⟩:=h0;clear hA0 hval0;simp only[List.append_nil]at hW';have hlt:∀x∈p,x.block<W.heap.size:=fun x hx=>by simpa using hW'.lt x hx
 obtain⟨a0,len,cap,rfl⟩:=okWide_slice underlying22 (hval 0 22 v0 rfl rfl);have hg:=TS hL;have h0s:0<W.heap.size:=by
  unfold World.cell? at hg
  cases hb:W.heap[0]? with
  | none=>simp[hb]at hg
  | some o=>exact U hb
 obtain⟨p',n',cap',f,hc,hS,hfit⟩:=Zh (c0:=.slice a0 len cap) (by simpa [Value.cells] using hf);cases hc;have e1:Rows.faultsSpec.fn H ([d0]++[])={ results:=[.lit (.bool true)],args:=[d0] }:=by simp[Rows.faultsSpec]
 refine(Gf.Ue a0 len cap f W hS hfit h0s ⟨hg,Wo ((laidMetH_iff.1 hL).1.filter fun x=>x.1 == "internal/strconv.uint64pow10") hsh⟩).mono fun e W' ⟨he,hK⟩=>?_;subst he;have hb:Below W.heap.size W W':=hK.below (Nat.le_refl _) (by simp);refine⟨_,rfl,_,_,_,[],p,[],hW',?_,?_,?_,hb.frame _,fun h=>by cases h⟩
 ·rw[e1];exact trodAll_mk1 (shut_bool underlying4 true)
 ·rw[e1];exact trodAll_mk1 (Below.trod NW (by kernel_rfl) (of_decide_eq_true (by kernel_rfl)) h0k hb hlt)
 ·rw[e1];rfl
end Gw
end Go.Proofs.YtdohpenfkdckiaaGreatDoor
