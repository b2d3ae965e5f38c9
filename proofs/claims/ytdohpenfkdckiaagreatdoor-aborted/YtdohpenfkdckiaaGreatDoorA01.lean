import Derived.Test.YtdohpenfkdckiaaGreatDoorB20
import Derived.Test.YtdohpenfkdckiaaGreatDoorRows
import Derived.ChangeSame
import Derived.ChangeVars
import Derived.JoinedOf
import Derived.RowKit
import Derived.LaidLaws
import Derived.LaidHandle
import Derived.Deep.Slices
import Derived.Stop.Joined
import Derived.Lay
set_option linter.all false
set_option maxRecDepth 100000
set_option maxHeartbeats 20000000
namespace Go.Proofs.YtdohpenfkdckiaaGreatDoor
open Go.Proofs.Tryz
open Go.RowKit
open Go.Maps (Keyed)
theorem qK8(x:Nat)(t:Tx)(s:Sto)(w:World)(hx:w.heap[x]?=some (χ t))(ho:t.over=true)(hSt:w.heap[t.St]?=some (ν 0 s))(hpo:s.po=false)(hxS:x≠t.St):
  Calls prog 36 #[.pointer (some ⟨x,0,none⟩)] w fun e w'=>∃ v,e=.returned v∧ErrV w' v (some 5)∧w'.heap[t.St]?=some (ν 0 s)∧Kp [t.St] w w':=by
 have hmf:=zM;have hxs:=ζ hx;go_enter func36,ntmps36;go_wp2_with fail;refine (zC4 x t.St 69 t s #[.pointer (some ⟨x,0,none⟩)] #[] _ w hx ho rfl hSt hpo hxS).mono ?_;rintro e w2 ⟨v,rfl,hv,hSt2,hK2⟩;have HE:Hid (ErrV w2 v (some 5)∧w2.heap[t.St]?=some (ν 0 s)∧Kp [t.St] w w2):=⟨hv,hSt2,hK2⟩;clear hv hSt2 hK2 hxS;go_wp2;go_ret;exact⟨v,rfl,HE.out⟩
end Go.Proofs.YtdohpenfkdckiaaGreatDoor
namespace Go.Proofs.YtdohpenfkdckiaaGreatDoor
open Go.Proofs.Tryz
open Go.RowKit
theorem qB4(A n C:Nat)(cache:Value)(calls writes:Int)(w:World)(h:w.heap[A]?=some (ψ n C cache calls writes)):
  Calls prog 35 #[.pointer (some ⟨A,0,none⟩)] w fun e w'=>e=.returned (.int .i64 writes)∧w'=w:=by
 have c0:=ξ h;simp only[ψ,zG,zH,zI] at c0;clear h;go_enter func35,ntmps35;go_wp2;go_ret;exact⟨rfl,rfl⟩
section
variable {w:World} {kc db St A C N nM:Nat} {s:Sto} {D:DataW Unit} {l:List UInt8} {wr:Int} {nw:Root}
theorem Shop.nopair(hS:Shop w kc db St A C N nM s D l wr nw):∀ k∈[St,s.M,A,C],∀ c fr,w.heap[k]?≠some (.cells c 42 fr):=by
 intro k hk c fr e;obtain⟨cA,hA⟩:=hS.hA;simp only[List.mem_cons,List.not_mem_nil,or_false] at hk;rcases hk with rfl|rfl|rfl|rfl
 ·rw[hS.hSt] at e;simp[ν] at e
 ·exact absurd rfl (qF2 e hS.hM)
 ·rw[hA] at e;simp[ψ] at e
 ·rw[hS.dev.hC] at e;simp at e
theorem Shop.over(hS:Shop w kc db St A C N nM s D l wr nw){x:Nat}{t:Tx}(hx:w.heap[x]?=some (χ t))(ho:t.over=true)(hst:t.St=St):
  Calls prog 36 #[.pointer (some ⟨x,0,none⟩)] w fun e w'=>∃ v,e=.returned v∧ErrV w' v (some 5)∧Shop w' kc db St A C N nM s D l wr nw∧Kp [St] w w':=by
 subst hst;have hne:x≠t.St:=qA7 hx hS.hSt (by decide);refine (qK8 x t s w hx ho hS.hSt hS.po hne).mono ?_;rintro e w' ⟨v,rfl,hv,hSt,hK⟩;have h1:s.M≠t.St:=(qF2 hS.hSt hS.hM).symm;exact⟨v,rfl,hv,hS.turn hK (by simpa using hS.neDb.1) (qM1 hS.dev hK (OffD.one hS.hSt (by decide))) ⟨rfl,rfl,rfl,rfl,rfl,rfl⟩ hSt (hS.hM.kp hK (by simpa using h1)) hS.m4 hS.n1 hS.bg0 hS.kb hS.rd,hK⟩
end
theorem qP5(a b:Int)(ha0:-9223372036854775808≤a)(ha1:a≤9223372036854775807)(hb0:-9223372036854775808≤b)(hb1:b≤9223372036854775807)(w:World)(h0:0<w.heap.size)(hg:w.cell? ⟨0,0,none⟩=some qK2):
  Calls prog 13 #[.int .i64 a,.int .i64 b] w fun e w'=>e=.returned (.bool true)∧Kp [] w w':=by
 have HG:Hid (0<w.heap.size∧w.cell? ⟨0,0,none⟩=some qK2):=⟨h0,hg⟩;clear h0 hg;have HB:Hid (Calls prog 18 #[.int .i64 150,.int .i64 a] w fun e w'=>∃ db St A C s l wr nw v,e=.returned (.tuple #[.pointer (some ⟨A,0,none⟩),.pointer (some ⟨db,0,none⟩),v])∧Shop w' 300 db St A C 150 1 s emp l wr nw∧OPA w' w.heap.size v (qC0 nw.cont)∧s.wr=0∧s.bg=2∧s.N≤10∧nw.cont.length≤43∧(⟨qF1,qJ7⟩:KV)∈nw.cont∧w.heap.size≤A∧w.heap.size≤C∧w.heap.size≤St∧w.heap.size≤db∧w.heap.size≤s.M∧Kp [] w w'):=zX2 150 300 (by omega) (by omega) (by omega) (by omega) a ha0 ha1 w;go_enter func13,ntmps13;go_wp2_with fail;refine (show Calls _ _ _ _ _ from HB.out).mono ?_;rintro e w1 ⟨db,St,A,C,s,l,wr,nw,v,rfl,hS1,ho1,hwr,hbg,hsN,hnw,_,gA,gC,gSt,gdb,gM,hK1⟩;have HS1:=zh hS1;obtain⟨ob,oc,rfl⟩:=qL2 ho1;obtain⟨sl,hsl⟩:∃ sl,sl=(qC0 nw.cont).length:=⟨_,rfl⟩;rw[←hsl] at ho1 ⊢;have HSL:=zh hsl;have HO1:=zh ho1;have HK1:=zh hK1;have HW1:Hid (Calls prog 35 #[.pointer (some ⟨A,0,none⟩)] w1 fun e w'=>e=.returned (.int .i64 wr)∧w'=w1):=by obtain⟨c,h⟩:=hS1.hA;exact qB4 A 150 C _ c wr w1 h
 clear hS1 ho1 hK1 HB hsl;go_wp2_with fail;refine (show Calls _ _ _ _ _ from HW1.out).mono ?_;rintro e w1' ⟨rfl,hw⟩;rw[hw];clear hw w1';go_wp2_with fail;refine (qZ9 b 30 hb0 hb1 (by omega) (by omega) w1).mono ?_;rintro e w1' ⟨⟨k,rfl,hk0,hk40⟩,hw⟩;rw[hw];clear hw w1';obtain⟨m,hm⟩:∃ m:Nat,(m:Int)=1+k:=⟨(1+k).toNat,by omega⟩;have HW:Hid (Calls prog 19 #[.pointer (some ⟨db,0,none⟩),.int .i64 b,.int .i64 (1+k)] w1 fun e w'=>∃ x t r v,e=.returned (.tuple #[.pointer (some ⟨x,0,none⟩),v])∧w1.heap.size≤x∧OPA w' w1.heap.size v (qC0 r.cont)∧r.cont.length≤nw.cont.length+m∧t.ch≤(m:Int)∧(∀ p∈nw.cont,p.k=qF1→p∈r.cont)∧Kp [St,A] w1 w'∧Wrt w' 300 db St A C 150 1 s.wrote emp l wr nw x t r (s.bg+1)):=by
  rw[←hm];refine zG1 HS1.out hwr (by omega) b hb0 hb1 m (by omega) (fun r' hg hz=>?_);have h1:=qS6 hg;have h2:=HS1.out.bl1;omega
 clear hm HW1;go_wp2_with fail;refine (show Calls _ _ _ _ _ from HW.out).mono ?_;rintro e w2 ⟨x,t,r,v2,rfl,hx2,ho2,hr2,hc2,_,hK2,hW2⟩;have hs1:=HK1.out.size;have HO2:Hid (OPA w2 w.heap.size (.slice ob sl oc) (qC0 nw.cont)):=OPA.keep HO1.out hK2 (fun k hk=>HS1.out.nopair k (by simp at hk ⊢;rcases hk with h | h<;>simp[h]));have HK2:Hid (Kp [] w w2):=HK1.out.trans hK2 (by intro i hi hlt;simp at hi;omega);have HAB:Hid (Calls prog 36 #[.pointer (some ⟨x,0,none⟩)] w2 fun e w'=>e=.returned .nilIface∧w'.heap[x]?=some (χ t.ended)∧Shop w' 300 db St A C 150 1 (s.wrote.left t.nr) (emp.del (qA0 t.nr)) l wr nw∧Kp [St,x,s.M] w2 w'):=hW2.shop.abort hW2.live hW2.st (by rw[hW2.nr];omega) (by rw[hW2.nr];omega);have HN2:Hid (∀ k∈[St,x,s.M],∀ c fr,w2.heap[k]?≠some (.cells c 42 fr)):=by
  show ∀ k∈[St,x,s.M],∀ c fr,w2.heap[k]?≠some (.cells c 42 fr);intro k hk c fr e;simp only[List.mem_cons,List.not_mem_nil,or_false] at hk;rcases hk with rfl|rfl|rfl
  ·exact hW2.shop.nopair _ (by simp) c fr e
  ·rw[hW2.live.hx] at e;simp[χ] at e
  ·exact hW2.shop.nopair _ (by simp[Sto.wrote]) c fr e
 have HT:Hid (t.nr=s.bg+1∧t.St=St):=⟨hW2.nr,hW2.st⟩;obtain⟨ob2,oc2,rfl⟩:=qL2 ho2;clear ho2 hK2 hW2 HW HO1 HS1;go_wp2_with fail;refine (show Calls _ _ _ _ _ from HAB.out).mono ?_;rintro e w3 ⟨rfl,hx3,hS3,hK3⟩;rw[xF7] at hS3;obtain⟨s3,hs3⟩:∃ s3,s3=s.wrote.left t.nr:=⟨_,rfl⟩;rw[←hs3] at hS3;have h3w:s3.wr=0:=by rw[hs3];show (if t.nr=s.bg+1 then 0 else _)=(0:Int);rw[if_pos HT.out.1]
 have h3b:s3.bg=3:=by rw[hs3];show s.bg+1=3;omega
 have h3M:s3.M=s.M:=by rw[hs3];rfl
 have hs2:=HK2.out.size;have HO3:Hid (OPA w3 w.heap.size (.slice ob sl oc) (qC0 nw.cont)):=OPA.keep HO2.out hK3 HN2.out;have HK3:Hid (Kp [] w w3):=HK2.out.trans hK3 (by intro i hi hlt;simp at hi;omega);have HS3:=zh hS3;have HAV:Hid (Calls prog 36 #[.pointer (some ⟨x,0,none⟩)] w3 fun e w'=>∃ v,e=.returned v∧ErrV w' v (some 5)∧Shop w' 300 db St A C 150 1 s3 emp l wr nw∧Kp [St] w3 w'):=hS3.over hx3 rfl HT.out.2;clear hx3 hS3 hK3 HAB HO2 HK2 HN2 hs3;go_wp2_with fail;refine (show Calls _ _ _ _ _ from HAV.out).mono ?_;rintro e w4 ⟨v4,rfl,hv4,hS4,hK4⟩;have hs3':=HK3.out.size;have HO4:Hid (OPA w4 w.heap.size (.slice ob sl oc) (qC0 nw.cont)):=OPA.keep HO3.out hK4 (fun k hk=>HS3.out.nopair k (by simp at hk ⊢;simp[hk]));have HK4:Hid (Kp [] w w4):=HK3.out.trans hK4 (by intro i hi hlt;simp at hi;omega);have HS4:=zh hS4;obtain⟨F,cl,rfl,hF⟩:=hv4;have HTO:Hid (Calls prog 24 #[.iface 243 (.pointer (some ⟨F,0,none⟩))] w4 fun e w'=>e=.returned (.int .i64 5)∧Kp [] w4 w'):=qU6 F cl 5 w4 (HK4.out.zero HG.out.1 HG.out.2) hF;clear hF hS4 hK4 HAV HO3 HK3 HS3;go_wp2_with fail;refine (show Calls _ _ _ _ _ from HTO.out).mono ?_;rintro e w5 ⟨rfl,hK5⟩;have hS5:=HS4.out.more hK5;have HO5:Hid (OPA w5 w.heap.size (.slice ob sl oc) (qC0 nw.cont)):=OPA.keep HO4.out hK5 (by simp);have HK5:Hid (Kp [] w w5):=HK4.out.tr hK5;have HNOW:Hid (Calls prog 30 #[.pointer (some ⟨db,0,none⟩)] w5 fun e w'=>∃ v,e=.returned (.tuple #[v,.bool true])∧OPA w' w5.heap.size v (qC0 nw.cont)∧Shop w' 300 db St A C 150 (1+1) s3.read ((emp.put (qA0 (s3.bg+1)) (qE8 ⟨⟨#[]⟩,s3.rb,s3.rs,none⟩)).del (qA0 (s3.bg+1))) l wr nw∧Kp [St,s3.M,A] w5 w'):=zP7 hS5 (by show 0<4;omega) (by omega) (by omega) (by omega);have HS5:=zh hS5;clear hS5 hK5 HTO HO4 HK4 HS4;go_wp2_with fail;refine (show Calls _ _ _ _ _ from HNOW.out).mono ?_;rintro e w6 ⟨v6,rfl,ho6,hS6,hK6⟩;rw[xF6] at hS6;have hs5:=HK5.out.size;have HO6:Hid (OPA w6 w.heap.size (.slice ob sl oc) (qC0 nw.cont)):=OPA.keep HO5.out hK6 (fun k hk=>HS5.out.nopair k (by simp at hk ⊢;rcases hk with h | h | h<;>simp[h]));have HK6:Hid (Kp [] w w6):=HK5.out.trans hK6 (by intro i hi hlt;simp at hi;omega);have hal:(qC0 nw.cont).length≤1000000:=by
  have h2:(qC0 nw.cont).length≤nw.cont.length:=by
   unfold qC0 qE9;rw[List.length_take];have:=List.length_filter_le (inR ⟨#[]⟩ qM9) nw.cont;omega
  omega
 have HSAME:Hid (Calls prog 33 #[.slice ob sl oc,v6] w6 fun e w'=>e=.returned (.bool true)∧Kp [] w6 w'):=zP8 _ _ _ _ (qC0 nw.cont) w6 HO6.out ho6 hal;have HS6:=zh hS6;obtain⟨ob6,oc6,rfl⟩:=qL2 ho6;rw[←HSL.out] at HSAME ⊢;clear ho6 hS6 hK6 HNOW HO5 HK5 HS5 hal;go_wp2_with fail;refine (show Calls _ _ _ _ _ from HSAME.out).mono ?_;rintro e w7 ⟨rfl,hK7⟩;have hS7:=HS6.out.more hK7;have HK7:Hid (Kp [] w w7):=HK6.out.tr hK7;have HBW:Hid (Calls prog 29 #[.pointer (some ⟨db,0,none⟩),.bool true] w7 fun e w'=>∃ x t,e=.returned (.tuple #[.pointer (some ⟨x,0,none⟩),.nilIface])∧w7.heap.size≤x∧t.St=St∧t.nr=s3.read.bg+1∧t.wrt=true∧t.ch=0∧Kp [St] w7 w'∧∃ hS':Shop w' 300 db St A C 150 (1+1) s3.read.wrote emp l wr nw,LiveT hS'.E w' x A 150 t s3.read.wrote nw):=hS7.beginW h3w (by show s3.bg+1≤_;omega);clear hS7 hK7 HSAME HO6 HK6 HS6;go_wp2_with fail;refine (show Calls _ _ _ _ _ from HBW.out).mono ?_;rintro e w8 ⟨u,tu,rfl,hu,_,_,_,_,hK8,hS8,hL8⟩;clear hL8;have hs7:=HK7.out.size;have HK8:Hid (Kp [] w w8):=HK7.out.trans hK8 (by intro i hi hlt;simp at hi;omega);have HW8:Hid (Calls prog 35 #[.pointer (some ⟨A,0,none⟩)] w8 fun e w'=>e=.returned (.int .i64 wr)∧w'=w8):=by obtain⟨c,h⟩:=hS8.hA;exact qB4 A 150 C _ c wr w8 h
 clear hK8 hS8 HBW HK7;go_wp2_with fail;refine (show Calls _ _ _ _ _ from HW8.out).mono ?_;rintro e w8' ⟨rfl,hw⟩;rw[hw];clear hw w8';go_wp2;go_ret;exact⟨rfl,HK8.out⟩
end Go.Proofs.YtdohpenfkdckiaaGreatDoor
namespace Go.Proofs.YtdohpenfkdckiaaGreatDoor
open Go.Proofs.Tryz
open Go.ChangeShapes Go.WideShapes Go.RowKit Go.Deep
theorem qB8{n:Int}(h:(Lit.int .i64 n).wf=true):-9223372036854775808≤n∧n≤9223372036854775807:=by
 simp[Lit.wf,IntKind.min,IntKind.max,IntKind.bits,IntKind.signed] at h;omega
theorem qV0:laidOutB prog=true:=by kernel_rfl
theorem zL4:ownKnob prog.godebug=none:=by kernel_rfl
theorem zL2:prog.globalNamed "errors.errorType"=some 0:=by kernel_rfl
theorem zL5:(prog.cutTypes.find? (·.1 == "internal/reflectlite.rtype")).map (·.2)=some 220:=by kernel_rfl
theorem zL3:((List.range 413).filter fun t=>prog.rowNamed t [101,114,114,111,114])=[38]:=by kernel_rfl
theorem zL6:prog.types.size=413:=by kernel_rfl
theorem qT3{W:World}(h:laidMetH prog Rows.abortedRow.laid W):W.cell? ⟨0,0,none⟩=some qK2:=by
 have h':laidMet prog (Rows.abortedRow.laid.filter fun x=>x.2.handleName?.isNone) W∧handlesMet prog [("errors.errorType",Rows.laid_errors_errorType)] W:=h;obtain⟨name,u,ty,e1,e2,e3,e4,e5⟩:=h'.2 _ (List.mem_singleton.2 rfl);have en:name=[101,114,114,111,114]:=(Option.some.inj e1).symm;subst en;obtain rfl:=Option.some.inj (zL5.symm.trans e2);have hm:ty∈(List.range 413).filter fun t=>prog.rowNamed t [101,114,114,111,114]:=List.mem_filter.2 ⟨List.mem_range.2 (by rw[←zL6];exact e3),e4⟩;rw[zL3] at hm;obtain rfl:=List.mem_singleton.1 hm;have hh:typeHandle prog 38=.pointer (some ⟨5,38,none⟩):=by kernel_rfl
 rw[hh] at e5;simpa [qK2] using World.var?_cell zL2 e5 0
theorem zL7(os:Os)(H:Type)(enc:TypeId × Value→H):
  ∃ (w:World) (tape:Tape) (i:Input),w.os=os∧(w.forCall tape i).Shaped prog∧i.vars=[]∧Input.okWide prog (w.forCall tape i) .any w.heap.size 13 i∧
   ((Rows.abortedSpec.pre enc prog f13 [] false (w.forCall tape i).memory i.args∧laidMetH prog Rows.abortedRow.laid (w.forCall tape i).memory)∧sizedMet enc prog f13 (OpenSpec.ofChange Rows.abortedSpec) false (w.forCall tape i).memory i.args)∧({}:Assume).holds prog (lone (Frame.enter prog 13 i.args .normal) [] (w.forCall tape i)):=
 ChangeSpec.witness_at (enc:=enc) (C:=checked) (os:=os) (X:=fun w _=>laidMetH prog Rows.abortedRow.laid w) false ({ World.laidAll prog os (Rows.abortedRow.laid.filter fun x=>x.2.handleName?.isNone) with heap:=(World.laidAll prog os (Rows.abortedRow.laid.filter fun x=>x.2.handleName?.isNone)).heap.modify 0 fun o=>match o with | .cells _ t frozen=>.cells #[qK2] t frozen | o=>o }) #[.int .i64 0,.int .i64 0] 8 rfl (by kernel_rfl) (by kernel_rfl) (by kernel_rfl) (by kernel_rfl) (by kernel_rfl) (laidMetH_of_parts (laidMet_of_run' 8 (by kernel_rfl) (by kernel_rfl)) (by kernel_rfl))
end Go.Proofs.YtdohpenfkdckiaaGreatDoor
namespace Go.Proofs.YtdohpenfkdckiaaGreatDoor
open Go.Proofs.Tryz
open Go Go.ChangeShapes Go.WideShapes Go.RowKit Go.Deep
theorem qN8(os:Os)(started:os.Started)(H:Type)(enc:TypeId × Value→H):
  ReturnsInHanded {} checked os 13 .any (fun w args=>(Rows.abortedSpec.pre enc prog f13 [] false w args∧laidMetH prog Rows.abortedRow.laid w)∧sizedMet enc prog f13 (OpenSpec.ofChange Rows.abortedSpec) false w args)
   (Rows.abortedSpec.post enc prog f13 false true false false):=by
 refine returnsInHanded_of_change_and (C:=checked) (X:=fun w _=>laidMetH prog Rows.abortedRow.laid w) (fun _ _ _ hh h=>h.of_heap hh) zL4 started (by kernel_rfl) func13 (zL7 os H enc) ?_;intro W base args ds gs before hval0 hW _ _ hL _;have hval:∀ (j:Nat) t v,f13.params[j]?=some t→args[j]?=some v→Value.okWide prog W .any base t v:=hval0;have hW':=hW;obtain⟨p,q,hA0,hV,rfl,_,_⟩:=hW;have hA:DataW.TrodAll enc prog W 0 (fun _=>true) true f13.params.toList args.toList ds p:=hA0;rw[params13] at hA hval;obtain⟨v0,v1,d0,d1,p0,p1,rfl,rfl,rfl,h0,h1⟩:=trodAll_two hA;obtain⟨rfl,rfl⟩:=trodVars_none hV;clear hA0 hval0;simp only[List.append_nil] at hW';obtain⟨a,rfl,rfl,rfl,wa⟩:=open_int underlying3 (hval 0 3 v0 rfl rfl) h0;obtain⟨b,rfl,rfl,rfl,wb⟩:=open_int underlying3 (hval 1 3 v1 rfl rfl) h1;have hg:=qT3 hL;have h0s:0<W.heap.size:=by
  unfold World.cell? at hg
  cases hb:W.heap[0]? with
  | none=>simp[hb] at hg
  | some o=>exact ζ hb
 have e1:Rows.abortedSpec.fn H ([.lit (.int .i64 a),.lit (.int .i64 b)]++[])={ results:=[.lit (.bool true)],args:=[.lit (.int .i64 a),.lit (.int .i64 b)] }:=by simp[Rows.abortedSpec]
 obtain⟨ha0,ha1⟩:=qB8 wa;obtain⟨hb0,hb1⟩:=qB8 wb;refine (qP5 a b ha0 ha1 hb0 hb1 W h0s hg).mono fun e W' ⟨he,hK⟩=>?_;subst he;have hb:Below W.heap.size W W':=hK.below (Nat.le_refl _) (by simp);refine⟨_,rfl,_,_,_,[],[],[],hW',?_,?_,?_,hb.frame _,fun h=>by cases h⟩
 ·rw[e1];exact trodAll_mk1 (shut_bool underlying4 true)
 ·rw[e1];exact trodAll_mk2 (shut_int underlying3 wa) (shut_int underlying3 wb)
 ·rw[e1];rfl
end Go.Proofs.YtdohpenfkdckiaaGreatDoor
