import Derived.Test.YtdohpenfkdckiaaGreatDoorM14
import Derived.ArgAppend
set_option linter.all false
set_option maxRecDepth 100000
set_option maxHeartbeats 20000000
namespace Go.Proofs.YtdohpenfkdckiaaGreatDoor
open Go.Proofs.Tryz
open Go.RowKit
structure LkIn(w:World)(B tb A n C:Nat)(cache:Value)(calls writes:Int)(k:KF)(f:TF)(ps:List KV):Prop where
 hB:w.heap[B]?=some (kob k)
 po:k.po=false
 kA:k.A=A
 hA:w.heap[A]?=some (qA1 n C cache calls writes)
 hT:w.heap[tb]?=some (tob f)
 sp:SPR w f.v ps
 sz:ps.length≤50000
 g0:w.cell? ⟨0,0,none⟩=some qB5
def qP0(R:World→Prop)(S:List Nat)(w w':World):Prop:=∃ w1,R w1∧Kp S w w1∧Kp [] w1 w'
theorem xM1(B tb A n C:Nat)(cache:Value)(calls writes:Int)(k:KF)(f:TF)(ps:List KV)(key gv:ByteArray)(gb:Bool)(ko:Option Int)(hko:ko=none)(S:List Nat)(R:World→Prop)(w:World)(hI:LkIn w B tb A n C cache calls writes k f ps)(hP:ProgS w S)(hkb:qF6 key=true)(hdn:f.dn=false)(hgr:qS9 ps key=.tuple #[.string gv,.bool gb])(hcall:Calls prog 197 #[.pointer (some ⟨f.x,0,none⟩),.string key] w fun e w'=>∃ v,e=.returned (.tuple #[.string gv,.bool gb,v])∧ErrV w' v ko∧R w'∧Kp S w w'):
  Calls prog 133 #[.pointer (some ⟨B,0,none⟩),.pointer (some ⟨tb,0,none⟩),.string key] w fun e w'=>e=.returned (.bool true)∧qP0 R S w w':=by
 have hBs:=ζ hI.hB;have hTs:=ζ hI.hT;have hAs:=ζ hI.hA;have HI:=zh hI;have HP:=zh hP;have hB:=hI.hB;have hT:=hI.hT;have hkA:=hI.kA;have HCALL:=zh hcall;have HKEY:Hid (∀ w,Calls prog 198 #[.string key] w fun e w'=>e=.returned (.bool true)∧w'=w):=by have h:=zE7 key;rw[hkb] at h;exact h
 have HGR:=zh hgr;have b0:=ξ hB 0;simp only[kob,zG,zH,zI] at b0;have t0:=ξ hT 0;simp only[tob,zG,zH,zI] at t0;rw[hkA] at b0;clear hI hP hB hT hkA hcall hkb hgr;go_enter func133,ntmps133;go_wp2_with fail;refine (qE6 A n C cache calls writes w HI.out.hA).mono ?_;rintro e w0 ⟨rfl,rfl⟩;go_wp2_with fail;refine (show Calls _ _ _ _ _ from HCALL.out).mono ?_;rintro e w1 ⟨v,rfl,hv,hR,hK1⟩;have hB1:=HP.out.stay hK1 HI.out.hB (by decide);have hT1:=HP.out.stay hK1 HI.out.hT (by decide);have hsp1:=HI.out.sp.keep hK1 (HP.out.apt (by decide));have hg1:=HP.out.g0 hK1 HI.out.g0 (by omega);have HR:Hid (R w1∧Kp S w0 w1):=⟨hR,hK1⟩;clear b0 t0 hR;go_wp2_with fail;refine (qD9 v ko w1 hg1 hv).mono ?_;rintro e w2 ⟨rfl,hK2⟩;have hB2:=hK2.hp hB1;have hT2:=hK2.hp hT1;have hsp2:=hsp1.keep0 hK2;have hT2s:=ζ hT2;have hB2s:=ζ hB2;have t1:=ξ hT2 1;simp only[tob,zG,zH,zI] at t1;obtain⟨vb,vl,vc,hvv⟩:=hsp2.slc;rw[hvv] at t1;have hsp2':SPR w2 (.slice vb vl vc) ps:=by rw[←hvv];exact hsp2
 clear hvv hsp2
 go_wp2_with (first | (go_at_call 127;refine (qC3 _ _).mono ?_;rintro e w2 ⟨rfl,rfl⟩) | (go_at_call 198;refine (HKEY.out _).mono ?_;rintro e w2 ⟨rfl,rfl⟩))
 refine (zR9 (.slice vb vl vc) ps key _ hsp2' (by have:=HI.out.sz;omega)).mono ?_;rintro e w3 ⟨rfl,hK3⟩;rw[HGR.out];have hB3:=hK3.hp hB2;have hT3:=hK3.hp hT2;have hB3s:=ζ hB3;have hT3s:=ζ hT3;have b10:=ξ hB3 10;simp only[kob,zG,zH,zI] at b10;have t3:=ξ hT3 3;simp only[tob,zG,zH,zI] at t3;rw[HI.out.po] at b10;have HK3:Hid (Kp [] w1 w3):=hK2.tr hK3;clear t1 hB1 hT1 hsp1 hg1 hK1 hK2 hK3 hB2 hT2 hsp2' hv hB3 hT3;rw[hdn] at t3;by_cases hz:gv=⟨#[]⟩
 ·subst hz;go_wp2;go_ret;exact⟨by simp,w1,HR.out.1,HR.out.2,HK3.out⟩
 ·go_wp2<;>(go_ret;exact⟨by simp,w1,HR.out.1,HR.out.2,HK3.out⟩)
theorem zN0(B tb A n C:Nat)(cache:Value)(calls writes:Int)(k:KF)(f:TF)(ps:List KV)(key gv:ByteArray)(kb gb:Bool)(j:Int)(ko:Option Int)(hko:ko=some j)(S:List Nat)(R:World→Prop)(w:World)(hI:LkIn w B tb A n C cache calls writes k f ps)(hP:ProgS w S)(hkb:qF6 key=kb)(hj:(f.dn=true∧j=5)∨(f.dn=false∧kb=false∧j=1))(hgr:qS9 ps key=.tuple #[.string gv,.bool gb])(hcall:Calls prog 197 #[.pointer (some ⟨f.x,0,none⟩),.string key] w fun e w'=>∃ v,e=.returned (.tuple #[.string ⟨#[]⟩,.bool false,v])∧ErrV w' v ko∧R w'∧Kp S w w'):
  Calls prog 133 #[.pointer (some ⟨B,0,none⟩),.pointer (some ⟨tb,0,none⟩),.string key] w fun e w'=>e=.returned (.bool true)∧qP0 R S w w':=by
 have hBs:=ζ hI.hB;have hTs:=ζ hI.hT;have hAs:=ζ hI.hA;have HI:=zh hI;have HP:=zh hP;have hB:=hI.hB;have hT:=hI.hT;have hkA:=hI.kA;have HCALL:=zh hcall;have HKEY:Hid (∀ w,Calls prog 198 #[.string key] w fun e w'=>e=.returned (.bool kb)∧w'=w):=by have h:=zE7 key;rw[hkb] at h;exact h
 have HGR:=zh hgr;have b0:=ξ hB 0;simp only[kob,zG,zH,zI] at b0;have t0:=ξ hT 0;simp only[tob,zG,zH,zI] at t0;rw[hkA] at b0;clear hI hP hB hT hkA hcall hkb hgr;go_enter func133,ntmps133;go_wp2_with fail;refine (qE6 A n C cache calls writes w HI.out.hA).mono ?_;rintro e w0 ⟨rfl,rfl⟩;go_wp2_with fail;refine (show Calls _ _ _ _ _ from HCALL.out).mono ?_;rintro e w1 ⟨v,rfl,hv,hR,hK1⟩;have hB1:=HP.out.stay hK1 HI.out.hB (by decide);have hT1:=HP.out.stay hK1 HI.out.hT (by decide);have hsp1:=HI.out.sp.keep hK1 (HP.out.apt (by decide));have hg1:=HP.out.g0 hK1 HI.out.g0 (by omega);have HR:Hid (R w1∧Kp S w0 w1):=⟨hR,hK1⟩;clear b0 t0 hR;go_wp2_with fail;refine (qD9 v ko w1 hg1 hv).mono ?_;rintro e w2 ⟨rfl,hK2⟩;have hB2:=hK2.hp hB1;have hT2:=hK2.hp hT1;have hsp2:=hsp1.keep0 hK2;have hT2s:=ζ hT2;have hB2s:=ζ hB2;have t1:=ξ hT2 1;simp only[tob,zG,zH,zI] at t1;obtain⟨vb,vl,vc,hvv⟩:=hsp2.slc;rw[hvv] at t1;have hsp2':SPR w2 (.slice vb vl vc) ps:=by rw[←hvv];exact hsp2
 clear hvv hsp2
 go_wp2_with (first | (go_at_call 127;refine (qC3 _ _).mono ?_;rintro e w2 ⟨rfl,rfl⟩) | (go_at_call 198;refine (HKEY.out _).mono ?_;rintro e w2 ⟨rfl,rfl⟩))
 refine (zR9 (.slice vb vl vc) ps key _ hsp2' (by have:=HI.out.sz;omega)).mono ?_;rintro e w3 ⟨rfl,hK3⟩;rw[HGR.out];have hB3:=hK3.hp hB2;have hT3:=hK3.hp hT2;have hB3s:=ζ hB3;have hT3s:=ζ hT3;have b10:=ξ hB3 10;simp only[kob,zG,zH,zI] at b10;have t3:=ξ hT3 3;simp only[tob,zG,zH,zI] at t3;rw[HI.out.po] at b10;have HK3:Hid (Kp [] w1 w3):=hK2.tr hK3;clear t1 hB1 hT1 hsp1 hg1 hK1 hK2 hK3 hB2 hT2 hsp2' hv hB3 hT3;rcases hj with⟨h1,h2⟩|⟨h1,h2,h3⟩
 ·rw[h1] at t3;clear h1;subst h2;go_wp2;go_ret;exact⟨by simp,w1,HR.out.1,HR.out.2,HK3.out⟩
 ·rw[h1] at t3;clear h1;subst h2 h3;go_wp2;go_ret;exact⟨by simp,w1,HR.out.1,HR.out.2,HK3.out⟩
theorem qV8(A n C:Nat)(cache:Value)(calls writes:Int)(w:World)(h:w.heap[A]?=some (qA1 n C cache calls writes)):
  Calls prog 35 #[.pointer (some ⟨A,0,none⟩)] w fun e w'=>e=.returned (.int .i64 writes)∧w'=w:=by
 have c0:=ξ h;simp only[qA1,zG,zH,zI] at c0;clear h;go_enter func35,ntmps35;go_wp2;go_ret;exact⟨rfl,rfl⟩
def zG9(f:TF)(tb:Nat)(R:World→Prop)(S:List Nat)(w w':World):Prop:=∃ w1,R w1∧Kp S w w1∧Kp [tb] w1 w'∧w'.heap[tb]?=some (tob { f with dn:=true })
theorem xG9(B tb A n C:Nat)(cache:Value)(calls writes:Int)(k:KF)(f:TF)(ps:List KV)(ko:Option Int)(hko:ko=none)(S:List Nat)(R:World→Prop)(w:World)(hI:LkIn w B tb A n C cache calls writes k f ps)(hP:ProgS w S)(hAS:A ∉ S)(hdn:f.dn=false)(hcall:Calls prog 36 #[.pointer (some ⟨f.x,0,none⟩)] w fun e w'=>∃ v,e=.returned v∧ErrV w' v ko∧R w'∧Kp S w w'):
  Calls prog 135 #[.pointer (some ⟨B,0,none⟩),.pointer (some ⟨tb,0,none⟩),.bool false] w fun e w'=>e=.returned (.bool true)∧zG9 f tb R S w w':=by
 have hBs:=ζ hI.hB;have hTs:=ζ hI.hT;have hAs:=ζ hI.hA;have HI:=zh hI;have HP:=zh hP;have HAS:=zh hAS;have hB:=hI.hB;have hT:=hI.hT;have hkA:=hI.kA;have HCALL:=zh hcall;have b0:=ξ hB 0;simp only[kob,zG,zH,zI] at b0;have t0:=ξ hT 0;simp only[tob,zG,zH,zI] at t0;rw[hkA] at b0;clear hI hP hB hT hkA hcall hAS;go_enter func135,ntmps135;go_wp2_with fail;refine (qE6 A n C cache calls writes w HI.out.hA).mono ?_;rintro e w0 ⟨rfl,rfl⟩;go_wp2_with fail;refine (qV8 A n C cache calls writes w0 HI.out.hA).mono ?_;rintro e w0 ⟨rfl,rfl⟩;go_wp2_with fail;refine (show Calls _ _ _ _ _ from HCALL.out).mono ?_;rintro e w1 ⟨v,rfl,hv,hR,hK1⟩;have hB1:=HP.out.stay hK1 HI.out.hB (by decide);have hT1:=HP.out.stay hK1 HI.out.hT (by decide);have hA1:=hK1.heap HI.out.hA HAS.out;have hg1:=HP.out.g0 hK1 HI.out.g0 (by omega);have HR:Hid (R w1∧Kp S w0 w1):=⟨hR,hK1⟩;clear b0 t0 hR;go_wp2_with fail;refine (qD9 v ko w1 hg1 hv).mono ?_;rintro e w2 ⟨rfl,hK2⟩;have hB2:=hK2.hp hB1;have hT2:=hK2.hp hT1;have hA2:=hK2.hp hA1;have hT2s:=ζ hT2;have hB2s:=ζ hB2;have b0:=ξ hB2 0;have b10:=ξ hB2 10;simp only[kob,zG,zH,zI] at b0 b10;have t3:=ξ hT2 3;simp only[tob,zG,zH,zI] at t3;have f3:=ρ hT2 3;rw[HI.out.po] at b10;rw[HI.out.kA] at b0;have HT2:=zh hT2;have HK2:=zh hK2;clear hB1 hT1 hg1 hK1 hK2 hB2 hv hA1 hT2
 go_wp2_with (go_at_call 127;refine (qC3 _ _).mono ?_;rintro e w2 ⟨rfl,rfl⟩)
 refine (qV8 A n C cache calls writes w2 hA2).mono ?_;rintro e w2 ⟨rfl,rfl⟩;clear hA2;have hws:wrap64 (writes-writes)=0:=by rw[Int.sub_self];simp only[wrap64];omega
 rw[hdn] at t3;go_wp2;go_ret;exact⟨by simp,w1,HR.out.1,HR.out.2,(HK2.out.mono (by simp)).sc _,μ HT2.out 3 _⟩
theorem xG8(B tb A n C:Nat)(cache:Value)(calls writes:Int)(k:KF)(f:TF)(ps:List KV)(ko:Option Int)(hko:ko=some 5)(S:List Nat)(R:World→Prop)(w:World)(hI:LkIn w B tb A n C cache calls writes k f ps)(hP:ProgS w S)(hAS:A ∉ S)(hdn:f.dn=true)(hcall:Calls prog 36 #[.pointer (some ⟨f.x,0,none⟩)] w fun e w'=>∃ v,e=.returned v∧ErrV w' v ko∧R w'∧Kp S w w'):
  Calls prog 135 #[.pointer (some ⟨B,0,none⟩),.pointer (some ⟨tb,0,none⟩),.bool false] w fun e w'=>e=.returned (.bool true)∧qP0 R S w w':=by
 have hBs:=ζ hI.hB;have hTs:=ζ hI.hT;have hAs:=ζ hI.hA;have HI:=zh hI;have HP:=zh hP;have HAS:=zh hAS;have hB:=hI.hB;have hT:=hI.hT;have hkA:=hI.kA;have HCALL:=zh hcall;have b0:=ξ hB 0;simp only[kob,zG,zH,zI] at b0;have t0:=ξ hT 0;simp only[tob,zG,zH,zI] at t0;rw[hkA] at b0;clear hI hP hB hT hkA hcall hAS;go_enter func135,ntmps135;go_wp2_with fail;refine (qE6 A n C cache calls writes w HI.out.hA).mono ?_;rintro e w0 ⟨rfl,rfl⟩;go_wp2_with fail;refine (qV8 A n C cache calls writes w0 HI.out.hA).mono ?_;rintro e w0 ⟨rfl,rfl⟩;go_wp2_with fail;refine (show Calls _ _ _ _ _ from HCALL.out).mono ?_;rintro e w1 ⟨v,rfl,hv,hR,hK1⟩;have hB1:=HP.out.stay hK1 HI.out.hB (by decide);have hT1:=HP.out.stay hK1 HI.out.hT (by decide);have hA1:=hK1.heap HI.out.hA HAS.out;have hg1:=HP.out.g0 hK1 HI.out.g0 (by omega);have HR:Hid (R w1∧Kp S w0 w1):=⟨hR,hK1⟩;clear b0 t0 hR;go_wp2_with fail;refine (qD9 v ko w1 hg1 hv).mono ?_;rintro e w2 ⟨rfl,hK2⟩;have hB2:=hK2.hp hB1;have hT2:=hK2.hp hT1;have hA2:=hK2.hp hA1;have hT2s:=ζ hT2;have hB2s:=ζ hB2;have b0:=ξ hB2 0;have b10:=ξ hB2 10;simp only[kob,zG,zH,zI] at b0 b10;have t3:=ξ hT2 3;simp only[tob,zG,zH,zI] at t3;have f3:=ρ hT2 3;rw[HI.out.po] at b10;rw[HI.out.kA] at b0;have HT2:=zh hT2;have HK2:=zh hK2;clear hB1 hT1 hg1 hK1 hK2 hB2 hv hA1 hT2
 go_wp2_with (go_at_call 127;refine (qC3 _ _).mono ?_;rintro e w2 ⟨rfl,rfl⟩)
 refine (qV8 A n C cache calls writes w2 hA2).mono ?_;rintro e w2 ⟨rfl,rfl⟩;clear hA2;have hws:wrap64 (writes-writes)=0:=by rw[Int.sub_self];simp only[wrap64];omega
 rw[hdn] at t3;go_wp2;go_ret;exact⟨by simp,w1,HR.out.1,HR.out.2,HK2.out⟩
def qD0(wr:Bool):List (TF × Nat)→Nat
 | []=>0
 | (f,_)::fs=>(if f.dn=false∧f.wr=wr then 1 else 0)+qD0 wr fs
theorem zA3(wr:Bool):∀ a b:List (TF × Nat),qD0 wr (a++b)=qD0 wr a+qD0 wr b
 | [],b=>by simp[qD0]
 | (f,l)::a,b=>by simp only[List.cons_append,qD0,zA3 wr a b];omega
theorem zA4(wr:Bool):∀ a:List (TF × Nat),qD0 wr a≤a.length
 | []=>by simp[qD0]
 | (f,l)::a=>by
  have:=zA4 wr a;simp only[qD0,List.length_cons];split<;>omega
theorem zN6:(prog.info? 132).map (fun i=>(i.zero,i.size,i.bytes))=some (some (.pointer none),1,8):=by kernel_rfl
theorem jD1{P:Program}(w:World)(base:Nat)(t ty e:TypeId)(i:TypeInfo)(z:Value)(size bytes:Nat)(ht:P.underlying t=some (.slice e))(hi:P.info? e=some i)(hz:i.zero=some z)
  (qA2:i.size=size) (hby:i.bytes=bytes) (hzs:z.cells.size=size) (hsz:0<size)
  (v:Value) (n:Nat) (xs:List Value) (hown:w.ownsRow base e size v n xs)
  (a:Addr) (m c:Nat) (news:List Value) (hl:news.length=m*size) (hnews:∀ j u,news[j]?=some u→w.cell? (a.add j)=some u) (h1:∀ u∈news,u.oneCell'=true)
  (h63:n+m≤maxLen) (hbytes:(n+m)*bytes≤140737488355328) (hbase:base≤w.heap.size):
  ∃ v' w',(Builtin.append_ #[t,t] ty #[v,.slice (some a) m c]).run P w=.ok v' w'∧w'.ownsRow base e size v' (n+m) (xs++news)∧w.grownBy w' v.ownBlock∧∀ k,v'.ownBlock=some k→v.ownBlock=some k∨w.heap.size≤k:=by
 obtain⟨v',w',hr,r1,r2,_⟩:=run_append_own (P:=P) w base t ty e i z size bytes ht hi hz qA2 hby hzs hsz v n xs hown a m c news hl hnews h1 h63 hbytes hbase;refine⟨v',w',hr,r1,r2,fun k hk=>?_⟩;rcases hown.2 with⟨h0,hn0⟩|⟨g,cap,cur,hv,h2,h3,h4,h5,h6,h7⟩
 ·subst h0 hn0;have hx:xs=[]:=List.length_eq_zero_iff.1 (by have:=hown.1;simpa using this);subst hx;obtain⟨v2,w2,hr2,q1,_⟩:=run_append_own (P:=P) w w.heap.size t ty e i z size bytes ht hi hz qA2 hby hzs hsz (.slice none 0 0) 0 [] (World.ownsRow_nil _ _ _ _) a m c news hl hnews h1 h63 hbytes (Nat.le_refl _);rw[hr] at hr2;cases hr2;exact .inr (World.ownsRow.lt q1 k hk).1
 ·subst hv;by_cases hroom:n+m≤cap
  ·obtain⟨w2,hr2,_⟩:=run_append_fits w base t ty e i size ht hi qA2 g n cap xs hown a m c news hl hnews h1 hroom;rw[hr] at hr2;cases hr2;exact .inl hk
  ·have hc:∀ j u,xs[j]?=some u→w.cell? ((⟨g,0,none⟩:Addr).add j)=some u:=World.ownsRow.cells hown rfl;obtain⟨v2,w2,hr2,q1,_⟩:=run_append_arg_grows w t ty e i z size bytes ht hi hz qA2 hby hzs hsz ⟨g,0,none⟩ n cap xs hown.1 hc a m c news hl hnews (by omega) h63 hbytes;rw[hr] at hr2;cases hr2;exact .inr (World.ownsRow.lt q1 k hk).1
theorem zE9(w:World)(base g:Nat)(v:Value)(n:Nat)(xs:List Value)(u:Value)(t e ty:TypeId)(z:Value)(ht:prog.underlying t=some (.slice e))(hi:(prog.info? e).map (fun i=>(i.zero,i.size,i.bytes))=some (some z,1,8))(hz:z.cells.size=1)
  (h:w.ownsRow base e 1 v n xs) (hn:n≤1000000) (hg:w.heap[g]?=some (.cells #[u] e)) (hu:u.oneCell'=true) (hb:base≤w.heap.size):
  ∃ v' w',Sem.run prog (Builtin.append_ #[t,t] ty #[v,.slice (some ⟨g,0,none⟩) 1 1]) w=.ok v' w'∧w'.ownsRow base e 1 v' (n+1) (xs++[u])∧w.grownBy w' v.ownBlock∧∀ k,v'.ownBlock=some k→v.ownBlock=some k∨w.heap.size≤k:=by
 obtain⟨i0,hi,hz0,hz1,hz2⟩:=info_parts hi;exact jD1 (P:=prog) w base t ty e i0 _ 1 8 ht hi hz0 hz1 hz2 hz (by decide) v n _ h ⟨g,0,none⟩ 1 1 [u] (by simp) (fun j v hv=>by
  rw[qG4,ξ hg];simpa using hv) (by simpa using hu) (by unfold maxLen;omega) (by omega) hb
structure BgIn(w:World)(B A n C:Nat)(cache:Value)(calls writes:Int)(k:KF)(Db base:Nat)(tbs:List Nat)(fs:List (TF × Nat))(cb:Option Addr)(cl cc:Nat):Prop where
 hB:w.heap[B]?=some (kob k)
 po:k.po=false
 kA:k.A=A
 hA:w.heap[A]?=some (qA1 n C cache calls writes)
 kx:k.x=some ⟨Db,0,none⟩
 kc:k.c=.slice cb cl cc
 ts:TFs w k tbs fs
 row:w.ownsRow base 132 1 k.ts tbs.length (qF3 tbs)
 bas:base≤w.heap.size
 len:tbs.length≤100000
 g0:w.cell? ⟨0,0,none⟩=some qB5
theorem zI1(B A n C:Nat)(cache:Value)(calls writes:Int)(k:KF)(Db base:Nat)(tbs:List Nat)(fs:List (TF × Nat))(cb:Option Addr)(cl cc:Nat)(wrt:Bool)(ko:Option Int)(hko:ko=some 4)(S:List Nat)(R:Option Addr→World→Prop)(w:World)(hI:BgIn w B A n C cache calls writes k Db base tbs fs cb cl cc)(hP:ProgS w S)(hx:∀ xo w,R xo w→xo=none)(hbusy:(wrt=true∧0<qD0 wrt fs)∨(wrt=false∧qD0 wrt fs=4))(hcall:Calls prog 29 #[.pointer (some ⟨Db,0,none⟩),.bool wrt] w fun e w'=>∃ xo v,e=.returned (.tuple #[.pointer xo,v])∧ErrV w' v ko∧R xo w'∧Kp S w w'):
  Calls prog 82 #[.pointer (some ⟨B,0,none⟩),.bool wrt] w fun e w'=>e=.returned (.bool true)∧qP0 (R none) S w w':=by
 have HBU:=zh hbusy;have HX:=zh hx;clear hbusy hx;have hBs:=ζ hI.hB;have hAs:=ζ hI.hA;have HI:=zh hI;have HP:=zh hP;have hB:=hI.hB;have hkA:=hI.kA;have hkx:=hI.kx;have HCALL:=zh hcall;have b0:=ξ hB 0;have b7:=ξ hB 7;simp only[kob,zG,zH,zI] at b0 b7;rw[hkA] at b0;rw[hkx] at b7;clear hI hP hB hkA hcall hkx;go_enter func82,ntmps82;go_wp2_with fail;refine (qE6 A n C cache calls writes w HI.out.hA).mono ?_;rintro e w0 ⟨rfl,rfl⟩;go_wp2_with fail;refine (show Calls _ _ _ _ _ from HCALL.out).mono ?_;rintro e w1 ⟨xo,v,rfl,hv,hR,hK1⟩;have hB1:=HP.out.stay hK1 HI.out.hB (by decide);have hTF1:=HP.out.tfs hK1 HI.out.ts;have hg1:=HP.out.g0 hK1 HI.out.g0 (by omega);have HR:Hid (R xo w1∧Kp S w0 w1):=⟨hR,hK1⟩;clear b0 b7 hR;go_wp2_with fail;refine (qD9 v ko w1 hg1 hv).mono ?_;rintro e w2 ⟨rfl,hK2⟩;have hB2:=hK2.hp hB1;have hTF2:=hTF1.keep0 hK2;obtain⟨p,c,hts,hrow⟩:=hTF2.row;have hB2s:=ζ hB2;have b8:=ξ hB2 8;have b9:=ξ hB2 9;have b10:=ξ hB2 10;have b11:=ξ hB2 11;simp only[kob,zG,zH,zI] at b8 b9 b10 b11;have f11:=ρ hB2 11;rw[HI.out.po] at b10;rw[hts] at b11;rw[HI.out.kc] at b8;have HTS:=zh hts;have HT:=zh hTF2;have HROW:=zh hrow;have HLEN:=zh hTF2.len;have hlen5:=HI.out.len;have HB2:=zh hB2;have HK2:=zh hK2;clear hB1 hTF1 hg1 hK1 hK2 hB2 hv hTF2 hrow hts
 go_wp2_with (go_at_call 127;refine (qC3 _ _).mono ?_;rintro e w2 ⟨rfl,rfl⟩)
 go_loopw [10,11] (fun s i wr=>∃ (j:Nat),j≤tbs.length∧i=.int .i64 j∧s=.int .i64 (qD0 wrt (fs.take j):Nat)∧∃ d,wr=w2.drewN d) (fun _ i _=>tbs.length-(intOf i).toNat)
 case atStart=>exact⟨0,Nat.zero_le _,rfl,rfl,0,rfl⟩
 case round=>
  obtain⟨j,hj,rfl,rfl,d,rfl⟩:=hrel;have hlen:=HLEN.out;have hsb:=zA4 wrt (fs.take j);have hsl:(fs.take j).length=j:=by simp;omega
  rw[hsl] at hsb;clear hsl;by_cases hlt:j<tbs.length
  ·have hjb:(j:Int)<(tbs.length:Int):=by omega
   have hjf:j<fs.length:=by omega
   obtain⟨g,cur,rfl,hR,hcur⟩:=HROW.out (by omega);obtain⟨hTb,vb,vc,hv⟩:=HT.out.at_ j hlt hjf;have hst:qD0 wrt (fs.take (j+1))=qD0 wrt (fs.take j)+(if fs[j].1.dn=false∧fs[j].1.wr=wrt then 1 else 0):=by
    rw[List.take_succ_eq_append_getElem hjf,zA3];simp[qD0]
   obtain⟨⟨f,l⟩,hf⟩:∃ f,fs[j]=f:=⟨_,rfl⟩;obtain⟨tb,htb⟩:∃ tb,tbs[j]=tb:=⟨_,rfl⟩;have hcj:=hcur j hlt;rw[htb] at hcj hTb;rw[hf] at hTb hst;simp only at hTb hst;have HST:=zh hst;generalize hM:qD0 wrt (fs.take j)=M at *;have hgs:=ζ hR;have hTs:=ζ hTb;have r0:=ξ hR j;rw[hcj] at r0;have t2:=ξ hTb 2;have t3:=ξ hTb 3;simp only[tob,zG,zH,zI] at t2 t3;clear hcur hR hTb hst hf htb hcj hM hv hlen
   cases hdn:f.dn with
   | true=>
    rw[hdn] at t3;go_wp2;refine⟨⟨j+1,by omega,by go_num,?_,_,rfl⟩,by simp[intOf];omega⟩;rw[HST.out,hdn];simp
   | false=>
    rw[hdn] at t3;by_cases hc:f.wr=wrt
    ·rw[hc] at t2;go_wp2;refine⟨⟨j+1,by omega,by go_num,?_,_,rfl⟩,by simp[intOf];omega⟩;rw[HST.out,hdn,if_pos ⟨rfl,hc⟩]
     go_num
    ·have hc1:(f.wr == wrt)=false:=by simpa using hc
     have hc2:decide (f.wr=wrt)=false:=decide_eq_false hc;go_wp2;refine⟨⟨j+1,by omega,by go_num,?_,_,rfl⟩,by simp[intOf];omega⟩;rw[HST.out,if_neg (fun h=>hc h.2)];simp
  have hM:qD0 wrt (fs.take j)=qD0 wrt fs:=by rw[List.take_of_length_le (by omega)]
  have hjb:¬(j:Int)<(tbs.length:Int):=by omega
  rw[hM] at hsb;rw[hM];clear hM hlen;have hxo:=HX.out _ _ HR.out.1;subst hxo;rcases HBU.out with⟨h1,h2⟩|⟨h1,h2⟩
  ·have h3:(0:Int)<(qD0 wrt fs:Nat):=by omega
   clear h2;generalize qD0 wrt fs=M at *;subst h1;go_wp2;go_ret;exact⟨by simp,w1,HR.out.1,HR.out.2,HK2.out.drewN _⟩
  ·rw[h2];clear h2;generalize qD0 wrt fs=M at *;subst h1;go_wp2;go_ret;exact⟨by simp,w1,HR.out.1,HR.out.2,HK2.out.drewN _⟩
theorem qK5{S:List Nat}{w w':World}{base n sz:Nat}{T:TypeId}{v:Value}{xs:List Value}(h:w.ownsRow base T sz v n xs)(hK:Kp S w w')(hS:∀ k c t fr,w.heap[k]?=some (.cells c t fr)→k∈S→t≠T):w'.ownsRow base T sz v n xs:=by
 refine⟨h.1,?_⟩;rcases h.2 with h0|⟨g,cap,cur,h1,h2,h3,h4⟩
 ·exact .inl h0
 ·exact .inr ⟨g,cap,cur,h1,h2,hK.heap h3 (fun hm=>hS g _ _ _ h3 hm rfl),h4⟩
theorem qU0{w:World}{base n sz:Nat}{T:TypeId}{v:Value}{xs:List Value}(h:w.ownsRow base T sz v n xs):∃ b c,v=.slice b n c:=by
 rcases h.2 with⟨h0,h1⟩|⟨g,cap,cur,h1,h2⟩
 ·exact⟨none,0,by rw[h0,h1]⟩
 ·exact⟨_,cap,h1⟩
def TF.born(k:KF)(x:Nat)(cl:Nat)(wrt:Bool):TF:=⟨x,k.c,wrt,false,0,cl,k.com,0,.slice none 0 0⟩
def zG6(k:KF)(B base cl:Nat)(wrt:Bool)(tbs:List Nat)(R:Option Addr→World→Prop)(S:List Nat)(w w':World):Prop:=
 ∃ w1 x tb v' L,R (some ⟨x,0,none⟩) w1∧Kp S w w1∧w1.heap.size≤tb∧w'.heap[tb]?=some (tob (TF.born k x cl wrt))∧w'.heap[B]?=some (kob { k with ts:=v' })∧w'.ownsRow base 132 1 v' (tbs.length+1) (qF3 (tbs++[tb]))∧Kp L w1 w'∧(∀ i∈L,i=B∨k.ts.ownBlock=some i)∧∀ i,v'.ownBlock=some i→k.ts.ownBlock=some i∨w1.heap.size≤i
theorem zI2(B A n C:Nat)(cache:Value)(calls writes:Int)(k:KF)(Db base:Nat)(tbs:List Nat)(fs:List (TF × Nat))(cb:Option Addr)(cl cc:Nat)(wrt:Bool)(ko:Option Int)(hko:ko=none)(S:List Nat)(R:Option Addr→World→Prop)(w:World)(hI:BgIn w B A n C cache calls writes k Db base tbs fs cb cl cc)(hP:ProgS w S)(hx:∀ xo w,R xo w→∃ x,xo=some ⟨x,0,none⟩)(hfree:(wrt=true∧qD0 wrt fs=0)∨(wrt=false∧qD0 wrt fs<4))(hcall:Calls prog 29 #[.pointer (some ⟨Db,0,none⟩),.bool wrt] w fun e w'=>∃ xo v,e=.returned (.tuple #[.pointer xo,v])∧ErrV w' v ko∧R xo w'∧Kp S w w'):
  Calls prog 82 #[.pointer (some ⟨B,0,none⟩),.bool wrt] w fun e w'=>e=.returned (.bool true)∧zG6 k B base cl wrt tbs R S w w':=by
 have HFR:=zh hfree;have HX:=zh hx;have HRW:Hid (w.ownsRow base 132 1 k.ts tbs.length (qF3 tbs)∧base≤w.heap.size):=⟨hI.row,hI.bas⟩;clear hfree hx;have hBs:=ζ hI.hB;have hAs:=ζ hI.hA;have HI:=zh hI;have HP:=zh hP;have hB:=hI.hB;have hkA:=hI.kA;have hkx:=hI.kx;have HCALL:=zh hcall;have b0:=ξ hB 0;have b7:=ξ hB 7;simp only[kob,zG,zH,zI] at b0 b7;rw[hkA] at b0;rw[hkx] at b7;clear hI hP hB hkA hcall hkx;go_enter func82,ntmps82;go_wp2_with fail;refine (qE6 A n C cache calls writes w HI.out.hA).mono ?_;rintro e w0 ⟨rfl,rfl⟩;go_wp2_with fail;refine (show Calls _ _ _ _ _ from HCALL.out).mono ?_;rintro e w1 ⟨xo,v,rfl,hv,hR,hK1⟩;have hB1:=HP.out.stay hK1 HI.out.hB (by decide);have hTF1:=HP.out.tfs hK1 HI.out.ts;have hg1:=HP.out.g0 hK1 HI.out.g0 (by omega);have HR:Hid (R xo w1∧Kp S w0 w1):=⟨hR,hK1⟩;clear b0 b7 hR;go_wp2_with fail;refine (qD9 v ko w1 hg1 hv).mono ?_;rintro e w2 ⟨rfl,hK2⟩;have hB2:=hK2.hp hB1;have hTF2:=hTF1.keep0 hK2;obtain⟨p,c,hts,hrow⟩:=hTF2.row;have hB2s:=ζ hB2;have b8:=ξ hB2 8;have b9:=ξ hB2 9;have b10:=ξ hB2 10;have b11:=ξ hB2 11;simp only[kob,zG,zH,zI] at b8 b9 b10 b11;have f11:=ρ hB2 11;rw[HI.out.po] at b10;rw[hts] at b11;rw[HI.out.kc] at b8;have HTS:=zh hts;have HT:=zh hTF2;have HROW:=zh hrow;have HLEN:=zh hTF2.len;have hlen5:=HI.out.len;have HB2:=zh hB2;have HK2:=zh hK2;clear hB1 hTF1 hg1 hK1 hK2 hB2 hv hTF2 hrow hts
 go_wp2_with (go_at_call 127;refine (qC3 _ _).mono ?_;rintro e w2 ⟨rfl,rfl⟩)
 go_loopw [10,11] (fun s i wr=>∃ (j:Nat),j≤tbs.length∧i=.int .i64 j∧s=.int .i64 (qD0 wrt (fs.take j):Nat)∧∃ d,wr=w2.drewN d) (fun _ i _=>tbs.length-(intOf i).toNat)
 case atStart=>exact⟨0,Nat.zero_le _,rfl,rfl,0,rfl⟩
 case round=>
  obtain⟨j,hj,rfl,rfl,d,rfl⟩:=hrel;have hlen:=HLEN.out;have hsb:=zA4 wrt (fs.take j);have hsl:(fs.take j).length=j:=by simp;omega
  rw[hsl] at hsb;clear hsl;by_cases hlt:j<tbs.length
  ·have hjb:(j:Int)<(tbs.length:Int):=by omega
   have hjf:j<fs.length:=by omega
   obtain⟨g,cur,rfl,hR,hcur⟩:=HROW.out (by omega);obtain⟨hTb,vb,vc,hv⟩:=HT.out.at_ j hlt hjf;have hst:qD0 wrt (fs.take (j+1))=qD0 wrt (fs.take j)+(if fs[j].1.dn=false∧fs[j].1.wr=wrt then 1 else 0):=by
    rw[List.take_succ_eq_append_getElem hjf,zA3];simp[qD0]
   obtain⟨⟨f,l⟩,hf⟩:∃ f,fs[j]=f:=⟨_,rfl⟩;obtain⟨tb,htb⟩:∃ tb,tbs[j]=tb:=⟨_,rfl⟩;have hcj:=hcur j hlt;rw[htb] at hcj hTb;rw[hf] at hTb hst;simp only at hTb hst;have HST:=zh hst;generalize hM:qD0 wrt (fs.take j)=M at *;have hgs:=ζ hR;have hTs:=ζ hTb;have r0:=ξ hR j;rw[hcj] at r0;have t2:=ξ hTb 2;have t3:=ξ hTb 3;simp only[tob,zG,zH,zI] at t2 t3;clear hcur hR hTb hst hf htb hcj hM hv hlen
   cases hdn:f.dn with
   | true=>
    rw[hdn] at t3;go_wp2;refine⟨⟨j+1,by omega,by go_num,?_,_,rfl⟩,by simp[intOf];omega⟩;rw[HST.out,hdn];simp
   | false=>
    rw[hdn] at t3;by_cases hc:f.wr=wrt
    ·rw[hc] at t2;go_wp2;refine⟨⟨j+1,by omega,by go_num,?_,_,rfl⟩,by simp[intOf];omega⟩;rw[HST.out,hdn,if_pos ⟨rfl,hc⟩]
     go_num
    ·have hc1:(f.wr == wrt)=false:=by simpa using hc
     have hc2:decide (f.wr=wrt)=false:=decide_eq_false hc;go_wp2;refine⟨⟨j+1,by omega,by go_num,?_,_,rfl⟩,by simp[intOf];omega⟩;rw[HST.out,if_neg (fun h=>hc h.2)];simp
  have hM:qD0 wrt (fs.take j)=qD0 wrt fs:=by rw[List.take_of_length_le (by omega)]
  have hjb:¬(j:Int)<(tbs.length:Int):=by omega
  rw[hM] at hsb;rw[hM];clear hM hlen;obtain⟨x,hxo⟩:=HX.out _ _ HR.out.1;subst hxo;obtain⟨w3,hw3,hB3,hK3⟩:∃ w3,w3=w2.drewN d∧w3.heap[B]?=some (kob k)∧Kp [] w1 w3:=⟨_,rfl,HB2.out,HK2.out.drewN _⟩;have HK3:=zh hK3;have hB3s:=ζ hB3;clear hK3;have hfr:(wrt=true→qD0 wrt fs=0)∧(wrt=false→¬((qD0 wrt fs:Nat):Int)=4):=by
   constructor
   ·intro h;rcases HFR.out with⟨_,h2⟩|⟨h1,_⟩
    ·exact h2
    ·rw[h] at h1;cases h1
   ·intro h;rcases HFR.out with⟨h1,_⟩|⟨_,h2⟩
    ·rw[h] at h1;cases h1
    ·omega
  cases hwv:wrt with
  | true=>
   have hz:=hfr.1 hwv;subst hwv;rw[hz];clear hz hfr;go_wp2_with fail;rw[←hw3];clear hw3 b8 b9 b10 b11 f11 hsb;have hS0:=hB3;refine wp_region_held_drew (S:=fun W=>W.heap[B]?=some (kob k)) (by kernel_rfl) hS0 (fun _=>?_);refine zP 0 x 0 hS0 ?_;refine zP 1 B 0 hS0 ?_;refine zP 2 B 0 hS0 ?_;refine zP 3 B 8 hS0 ?_;refine zV 4 (.agg #[.slice cb cl cc]) rfl (fun W hS=>by have c:=ξ hS 8;simp only[kob,zG,zH,zI] at c;rw[HI.out.kc] at c;clear hS;go_simp) hS0 ?_;refine zU 5 (.bool true) hS0 ?_;refine zP 6 B 0 hS0 ?_;refine zP 7 B 0 hS0 ?_;refine zP 8 B 8 hS0 ?_;refine zP 9 B 8 hS0 ?_;refine zV 10 (.slice cb cl cc) rfl (fun W hS=>by have c:=ξ hS 8;simp only[kob,zG,zH,zI] at c;rw[HI.out.kc] at c;clear hS;go_simp) hS0 ?_;refine zU 11 (.int .i64 cl) hS0 ?_;refine zP 12 B 0 hS0 ?_;refine zP 13 B 0 hS0 ?_;refine zP 14 B 9 hS0 ?_;refine zV 15 (.int .i64 k.com) rfl (fun W hS=>by have c:=ξ hS 9;simp only[kob,zG,zH,zI] at c;clear hS;go_simp) hS0 ?_;refine zU 16 (.agg #[.slice cb cl cc,.bool true,.bool false,.int .i64 0,.int .i64 cl,.int .i64 k.com,.int .i64 0]) hS0 ?_;refine zU 17 (.agg #[.pointer (some ⟨x,0,none⟩),.slice cb cl cc,.bool true,.bool false,.int .i64 0,.int .i64 cl,.int .i64 k.com,.int .i64 0,.slice none 0 0]) hS0 ?_;refine zq 18 fun K hK=>?_;go_simp;obtain⟨w4,hw4,hT4,hB4,hK4,hs4⟩:∃ w4,w4=World.drew (w3.alloc (.cells #[.pointer (some ⟨x,0,none⟩),.slice cb cl cc,.bool true,.bool false,.int .i64 0,.int .i64 cl,.int .i64 k.com,.int .i64 0,.slice none 0 0] 197))∧w4.heap[w3.heap.size]?=some (tob (TF.born k x cl true))∧w4.heap[B]?=some (kob k)∧Kp [] w3 w4∧w4.heap.size=w3.heap.size+1:=
    ⟨_,rfl,by have e:=κ w3 (.cells #[.pointer (some ⟨x,0,none⟩),.slice cb cl cc,.bool true,.bool false,.int .i64 0,.int .i64 cl,.int .i64 k.com,.int .i64 0,.slice none 0 0] 197);rw[TF.born,tob,HI.out.kc];exact e,η _ hS0,((Kp.refl _ w3).alloc _).drew,show (w3.alloc _).heap.size=_ by simp⟩
   rw[←hw4];refine hK.out _ _ hB4 (fun _=>?_);clear hK K hw4
   try simp only[zZ]
   refine zP 19 w3.heap.size 0 hB4 ?_;refine zd ?_;have hr4:w4.ownsRow base 132 1 k.ts tbs.length (qF3 tbs):=qK5 (qK5 HRW.out.1 HR.out.2 (fun k' c t fr h1 h2 e=>absurd ((HP.out k' h2).2 _ _ _ h1) (by rw[e];decide))) (HK3.out.tr hK4) (fun _ _ _ _ _ h=>by cases h);have hsz1:=HR.out.2.size;have hsz3:=HK3.out.size;have hbs:=HRW.out.2;obtain⟨v',w6,hr6,hrow6,hgr6,hob6⟩:=zE9 (w4.alloc (.cells #[.pointer (some ⟨w3.heap.size,0,none⟩)] 132)) base w4.heap.size k.ts tbs.length (qF3 tbs) (.pointer (some ⟨w3.heap.size,0,none⟩)) 127 132 127 (.pointer none) underlying127 zN6 rfl (World.ownsRow.alloc hr4 _) (by omega) (κ _ _) rfl (by simp;omega);have hT6:=qL0 hr4 hgr6 hT4 (by decide);have hB6:=qL0 hr4 hgr6 hB4 (by decide);obtain⟨b6,c6,hv6⟩:=qU0 hrow6;subst hv6;have HROW6:=zh hrow6;have HG6:=zh hgr6;have HOB:Hid (∀ i,Value.ownBlock (.slice b6 (tbs.length+1) c6)=some i→k.ts.ownBlock=some i∨w1.heap.size≤i):=fun i hi=>(hob6 i hi).imp id (fun h=>by simp at h;omega);have HT6:=zh hT6;have HB6:=zh hB6;have HK4:=zh hK4;have HS13:=zh hsz3;have hB6s:=ζ hB6;have hB4s:=ζ hB4;rw[HTS.out] at hr6;have b11:=ξ hB4 11;simp only[kob,zG,zH,zI] at b11;rw[HTS.out] at b11;have f11:=ρ hB6 11;have q11:=ξ hB6 11;simp only[kob,zG,zH,zI] at q11;clear hS0 hB4 hB6 hT4 hT6 hrow6 hgr6 hr4 hK4 hsz1 hsz3 hbs hs4 hob6
   go_wp2_with (at_builtin;(with_reducible refine qL7 ?_ ?_ hr6 ?_);rfl;rfl)
   go_ret;have hKg:Kp (B::k.ts.ownBlock.toList) w3 w6:=(((HK4.out.mono (by simp)).alloc _).grown HG6.out (fun i hi=>Or.inl (by simp[hi])));have hKF:Kp (B::k.ts.ownBlock.toList) w1 (w6.setCell ⟨B,11,none⟩ (.slice b6 (tbs.length+1) c6)):=((HK3.out.mono (by simp)).trans hKg (fun i hi _=>hi)).sc _;refine⟨by simp,w1,x,w3.heap.size,.slice b6 (tbs.length+1) c6,_,HR.out.1,HR.out.2,HS13.out,?_,μ HB6.out 11 _,?_,hKF,?_,HOB.out⟩
   ·exact (qA4 (ω HT6.out HB6.out (by decide)) _ _).trans HT6.out
   ·refine qK5 (S:=[B]) (by rw[qF3,List.map_append];exact HROW6.out) ((Kp.refl _ _).sc _) (fun i c t fr h1 h2=>?_);rw[List.mem_singleton.1 h2,HB6.out] at h1;cases h1;decide
   ·intro i hi;simpa using hi
  | false=>
   have hz:=hfr.2 hwv;subst hwv;clear hfr;generalize qD0 false fs=M at *;go_wp2_with fail;rw[←hw3];clear hw3 b8 b9 b10 b11 f11 hsb;have hS0:=hB3;refine wp_region_held_drew (S:=fun W=>W.heap[B]?=some (kob k)) (by kernel_rfl) hS0 (fun _=>?_);refine zP 0 x 0 hS0 ?_;refine zP 1 B 0 hS0 ?_;refine zP 2 B 0 hS0 ?_;refine zP 3 B 8 hS0 ?_;refine zV 4 (.agg #[.slice cb cl cc]) rfl (fun W hS=>by have c:=ξ hS 8;simp only[kob,zG,zH,zI] at c;rw[HI.out.kc] at c;clear hS;go_simp) hS0 ?_;refine zU 5 (.bool false) hS0 ?_;refine zP 6 B 0 hS0 ?_;refine zP 7 B 0 hS0 ?_;refine zP 8 B 8 hS0 ?_;refine zP 9 B 8 hS0 ?_;refine zV 10 (.slice cb cl cc) rfl (fun W hS=>by have c:=ξ hS 8;simp only[kob,zG,zH,zI] at c;rw[HI.out.kc] at c;clear hS;go_simp) hS0 ?_;refine zU 11 (.int .i64 cl) hS0 ?_;refine zP 12 B 0 hS0 ?_;refine zP 13 B 0 hS0 ?_;refine zP 14 B 9 hS0 ?_;refine zV 15 (.int .i64 k.com) rfl (fun W hS=>by have c:=ξ hS 9;simp only[kob,zG,zH,zI] at c;clear hS;go_simp) hS0 ?_;refine zU 16 (.agg #[.slice cb cl cc,.bool false,.bool false,.int .i64 0,.int .i64 cl,.int .i64 k.com,.int .i64 0]) hS0 ?_;refine zU 17 (.agg #[.pointer (some ⟨x,0,none⟩),.slice cb cl cc,.bool false,.bool false,.int .i64 0,.int .i64 cl,.int .i64 k.com,.int .i64 0,.slice none 0 0]) hS0 ?_;refine zq 18 fun K hK=>?_;go_simp;obtain⟨w4,hw4,hT4,hB4,hK4,hs4⟩:∃ w4,w4=World.drew (w3.alloc (.cells #[.pointer (some ⟨x,0,none⟩),.slice cb cl cc,.bool false,.bool false,.int .i64 0,.int .i64 cl,.int .i64 k.com,.int .i64 0,.slice none 0 0] 197))∧w4.heap[w3.heap.size]?=some (tob (TF.born k x cl false))∧w4.heap[B]?=some (kob k)∧Kp [] w3 w4∧w4.heap.size=w3.heap.size+1:=
    ⟨_,rfl,by have e:=κ w3 (.cells #[.pointer (some ⟨x,0,none⟩),.slice cb cl cc,.bool false,.bool false,.int .i64 0,.int .i64 cl,.int .i64 k.com,.int .i64 0,.slice none 0 0] 197);rw[TF.born,tob,HI.out.kc];exact e,η _ hS0,((Kp.refl _ w3).alloc _).drew,show (w3.alloc _).heap.size=_ by simp⟩
   rw[←hw4];refine hK.out _ _ hB4 (fun _=>?_);clear hK K hw4
   try simp only[zZ]
   refine zP 19 w3.heap.size 0 hB4 ?_;refine zd ?_;have hr4:w4.ownsRow base 132 1 k.ts tbs.length (qF3 tbs):=qK5 (qK5 HRW.out.1 HR.out.2 (fun k' c t fr h1 h2 e=>absurd ((HP.out k' h2).2 _ _ _ h1) (by rw[e];decide))) (HK3.out.tr hK4) (fun _ _ _ _ _ h=>by cases h);have hsz1:=HR.out.2.size;have hsz3:=HK3.out.size;have hbs:=HRW.out.2;obtain⟨v',w6,hr6,hrow6,hgr6,hob6⟩:=zE9 (w4.alloc (.cells #[.pointer (some ⟨w3.heap.size,0,none⟩)] 132)) base w4.heap.size k.ts tbs.length (qF3 tbs) (.pointer (some ⟨w3.heap.size,0,none⟩)) 127 132 127 (.pointer none) underlying127 zN6 rfl (World.ownsRow.alloc hr4 _) (by omega) (κ _ _) rfl (by simp;omega);have hT6:=qL0 hr4 hgr6 hT4 (by decide);have hB6:=qL0 hr4 hgr6 hB4 (by decide);obtain⟨b6,c6,hv6⟩:=qU0 hrow6;subst hv6;have HROW6:=zh hrow6;have HG6:=zh hgr6;have HOB:Hid (∀ i,Value.ownBlock (.slice b6 (tbs.length+1) c6)=some i→k.ts.ownBlock=some i∨w1.heap.size≤i):=fun i hi=>(hob6 i hi).imp id (fun h=>by simp at h;omega);have HT6:=zh hT6;have HB6:=zh hB6;have HK4:=zh hK4;have HS13:=zh hsz3;have hB6s:=ζ hB6;have hB4s:=ζ hB4;rw[HTS.out] at hr6;have b11:=ξ hB4 11;simp only[kob,zG,zH,zI] at b11;rw[HTS.out] at b11;have f11:=ρ hB6 11;have q11:=ξ hB6 11;simp only[kob,zG,zH,zI] at q11;clear hS0 hB4 hB6 hT4 hT6 hrow6 hgr6 hr4 hK4 hsz1 hsz3 hbs hs4 hob6
   go_wp2_with (at_builtin;(with_reducible refine qL7 ?_ ?_ hr6 ?_);rfl;rfl)
   go_ret;have hKg:Kp (B::k.ts.ownBlock.toList) w3 w6:=(((HK4.out.mono (by simp)).alloc _).grown HG6.out (fun i hi=>Or.inl (by simp[hi])));have hKF:Kp (B::k.ts.ownBlock.toList) w1 (w6.setCell ⟨B,11,none⟩ (.slice b6 (tbs.length+1) c6)):=((HK3.out.mono (by simp)).trans hKg (fun i hi _=>hi)).sc _;refine⟨by simp,w1,x,w3.heap.size,.slice b6 (tbs.length+1) c6,_,HR.out.1,HR.out.2,HS13.out,?_,μ HB6.out 11 _,?_,hKF,?_,HOB.out⟩
   ·exact (qA4 (ω HT6.out HB6.out (by decide)) _ _).trans HT6.out
   ·refine qK5 (S:=[B]) (by rw[qF3,List.map_append];exact HROW6.out) ((Kp.refl _ _).sc _) (fun i c t fr h1 h2=>?_);rw[List.mem_singleton.1 h2,HB6.out] at h1;cases h1;decide
   ·intro i hi;simpa using hi
structure HEnt where
 l:Value
 c:Value
 ps:List KV
structure Held(w:World)(base:Nat)(k:KF)(hs:List HEnt):Prop where
 li:w.ownsRow base 29 1 k.li hs.length (hs.map HEnt.l)
 wa:w.ownsRow base 29 1 k.wa hs.length (hs.map HEnt.c)
 two:∀ i,k.li.ownBlock=some i→k.wa.ownBlock≠some i
 eq:∀ x∈hs,SPA w x.l x.ps∧SPA w x.c x.ps
theorem Held.cellL{w:World}{base:Nat}{k:KF}{hs:List HEnt}(h:Held w base k hs){j:Nat}(hj:j<hs.length):∃ g c,k.li=.slice (some ⟨g,0,none⟩) hs.length c∧hs.length≤c∧g<w.heap.size∧w.cell? ⟨g,j,none⟩=some hs[j].l:=by
 rcases h.li.2 with⟨h0,h1⟩|⟨g,cap,cur,h1,h2,h3,h4,h5,h6,h7⟩
 ·omega
 ·refine⟨g,cap,h1,h4,ζ h3,?_⟩;have e:=World.ownsRow.cells h.li (g:=g) (by rw[h1];rfl) j hs[j].l (by simp[hj])
  rwa [qG4,Nat.zero_add] at e
theorem Held.cellW{w:World}{base:Nat}{k:KF}{hs:List HEnt}(h:Held w base k hs){j:Nat}(hj:j<hs.length):∃ g c,k.wa=.slice (some ⟨g,0,none⟩) hs.length c∧hs.length≤c∧g<w.heap.size∧w.cell? ⟨g,j,none⟩=some hs[j].c:=by
 rcases h.wa.2 with⟨h0,h1⟩|⟨g,cap,cur,h1,h2,h3,h4,h5,h6,h7⟩
 ·omega
 ·refine⟨g,cap,h1,h4,ζ h3,?_⟩;have e:=World.ownsRow.cells h.wa (g:=g) (by rw[h1];rfl) j hs[j].c (by simp[hj])
  rwa [qG4,Nat.zero_add] at e
theorem xQ8(B base:Nat)(k:KF)(hs:List HEnt)(w:World)(hB:w.heap[B]?=some (kob k))(hH:Held w base k hs)(hn:hs.length≤100000)(hl:∀ x∈hs,x.ps.length≤1000000):
  Calls prog 84 #[.pointer (some ⟨B,0,none⟩)] w fun e w'=>e=.returned (.bool true)∧Kp [] w w':=by
 obtain⟨pl,cl,hkl⟩:=qU0 hH.li;have hBs:=ζ hB;have b12:=ξ hB 12;have b13:=ξ hB 13;simp only[kob,zG,zH,zI] at b12 b13;rw[hkl] at b12;have HH:=zh hH;have HKL:=zh hkl;have HL:=zh hl;clear hB hH hkl hl;go_enter func84,ntmps84;go_wp2_with fail
 go_loopw [3] (fun i wr=>∃ (j:Nat),j≤hs.length∧i=.int .i64 j∧∃ d,wr=w.drewN d) (fun i _=>hs.length-(intOf i).toNat)
 case atStart=>exact⟨0,Nat.zero_le _,rfl,0,rfl⟩
 case round=>
  obtain⟨j,hj,rfl,d,rfl⟩:=hrel;by_cases hlt:j<hs.length
  ·have hjb:(j:Int)<(hs.length:Int):=by omega
   obtain⟨g1,c1,e1,hc1,hg1,r1⟩:=HH.out.cellL hlt;obtain⟨g2,c2,e2,hc2,hg2,r2⟩:=HH.out.cellW hlt;rw[HKL.out] at e1;simp only[Value.slice.injEq,true_and] at e1;obtain⟨rfl,rfl⟩:=e1;rw[e2] at b13;obtain⟨hs1,hs2⟩:=HH.out.eq hs[j] (List.getElem_mem hlt);have hln:=HL.out hs[j] (List.getElem_mem hlt);obtain⟨⟨lv,cv,ps⟩,hx⟩:∃ x,hs[j]=x:=⟨_,rfl⟩;rw[hx] at r1 r2 hs1 hs2 hln;simp only at r1 r2 hs1 hs2 hln;obtain⟨lb,lc,rfl⟩:=hs1.form;obtain⟨wb,wc,rfl⟩:=hs2.form;have HS:Hid (SPA w (.slice lb ps.length lc) ps∧SPA w (.slice wb ps.length wc) ps):=⟨hs1,hs2⟩;clear hs1 hs2 hx e2;go_wp2_with fail
   go_loopw [4] (fun q wr=>∃ (z:Nat),z≤ps.length∧q=.int .i64 z∧∃ d,wr=w.drewN d) (fun q _=>ps.length-(intOf q).toNat)
   case atStart=>exact⟨0,Nat.zero_le _,rfl,d,rfl⟩
   case round=>
    obtain⟨z,hz,rfl,d',rfl⟩:=hrel;by_cases hzl:z<ps.length
    ·have hzb:(z:Int)<(ps.length:Int):=by omega
     obtain⟨g3,off3,cap3,cur3,fr3,hv3,hcp3,hrow3,hcur3⟩:=HS.out.1.at (by omega);obtain⟨g4,off4,cap4,cur4,fr4,hv4,hcp4,hrow4,hcur4⟩:=HS.out.2.at (by omega);obtain⟨x0,x1⟩:=hcur3 z hzl;obtain⟨y0,y1⟩:=hcur4 z hzl;simp only[Value.slice.injEq,true_and] at hv3 hv4;obtain⟨rfl,rfl⟩:=hv3;obtain⟨rfl,rfl⟩:=hv4;have a0:=ξ hrow3 (off3+z*2);rw[x0] at a0;have a1:=ξ hrow3 (off3+z*2+1);rw[x1] at a1;have h0:=ξ hrow4 (off4+z*2);rw[y0] at h0;have h1:=ξ hrow4 (off4+z*2+1);rw[y1] at h1;have hgs3:=ζ hrow3;have hgs4:=ζ hrow4;obtain⟨p,hp⟩:∃ p,ps[z]=p:=⟨_,rfl⟩;rw[hp] at a0 a1 h0 h1;clear hcur3 hcur4 x0 x1 y0 y1 hrow3 hrow4 hp;go_wp2_with fail
     go_quiet (fail)
     go_wp2;exact⟨⟨z+1,by omega,by go_num,_,rfl⟩,by simp[intOf];omega⟩
    ·have hzb:¬(z:Int)<(ps.length:Int):=by omega
     go_wp2;exact⟨⟨j+1,by omega,by go_num,_,rfl⟩,by simp[intOf];omega⟩
  ·have hjb:¬(j:Int)<(hs.length:Int):=by omega
   go_wp2;go_ret;exact⟨rfl,(Kp.refl _ _).drewN _⟩
end Go.Proofs.YtdohpenfkdckiaaGreatDoor
