import Derived.Test.YtdohpenfkdckiaaGreatDoorJ18
import Derived.Test.YtdohpenfkdckiaaGreatDoorJ22
import Derived.Test.YtdohpenfkdckiaaGreatDoorJ24
set_option linter.all false
set_option maxRecDepth 100000
set_option maxHeartbeats 20000000
namespace Go.Proofs.YtdohpenfkdckiaaGreatDoor
open Go.Proofs.Tryz
open Go.RowKit
theorem kM6(w)(o1 o2 o3 o4 o5 o6):∃ w1,w1=(((((w.alloc o1).alloc o2).alloc o3).alloc o4).alloc o5).alloc o6/\w1.heap[w.heap.size]?=some o1/\w1.heap[w.heap.size+1]?=some o2/\w1.heap[w.heap.size+1+1]?=some o3/\w1.heap[w.heap.size+1+1+1]?=some o4/\w1.heap[w.heap.size+1+1+1+1]?=some o5/\w1.heap[w.heap.size+1+1+1+1+1]?=some o6/\Kp [] w w1/\w1.heap.size=w.heap.size+6:=by
 obtain⟨w1,h,b,c,d,f,g,hK,a⟩:=zM3 w o1 o2 o3 o4 o5;refine⟨w1.alloc o6,by rw[h],ν _ b,ν _ c,ν _ d,ν _ f,ν _ g,?_,hK.alloc _,by simp[a]⟩;have e:=υ w1 o6;rw[a] at e;exact e
theorem zY3(args)(W):Sem.run prog (callFunc 91 args) W=.ok (.enter 91 args) W:=by
 simp[go_sem,func91]
structure CurT(E:SEnv)(w w':World)(Cb x:Nat)(t:Tx)(s:Sto)(k:ByteArray):Prop where
 dev:E.Dev w'
 hSt:w'.heap[t.St]?=some (θ 0 s)
 hC:w'.heap[Cb]?=some (qD3 x k t.ch)
 kp:Kp (t.St::Cb::E.S) w w'
structure Six(w w0:World)(Cb:Nat)(fh:Bool)(g:Nat)(capf:Array Value):Prop where
 c:w0.heap[w.heap.size]?=some (.cells #[.pointer (some ⟨Cb,0,none⟩)] 36)
 f:w0.heap[w.heap.size+1]?=some (.cells #[.bool fh] 4)
 g:w0.heap[w.heap.size+1+1]?=some (.cells #[.func (.func g) #[] capf] 93)
 r:w0.heap[w.heap.size+1+1+1]?=some (.cells #[.string ⟨#[]⟩,.string ⟨#[]⟩] 42)
 p:w0.heap[w.heap.size+1+1+1+1]?=some (.cells #[.string ⟨#[]⟩,.string ⟨#[]⟩] 42)
 b:w0.heap[w.heap.size+1+1+1+1+1]?=some (.cells #[.bool false] 4)
 k:Kp [] w w0
 s:w0.heap.size=w.heap.size+6
theorem zL4{b x:Nat}{key}{Y:Int}{call}{m:Bool}{g:Nat}{capf}{fk fv}{fb:Bool}{P:Value->World->Prop}{w}(o:w.heap[b]?=some (qD3 x key Y))
  (E:∀ j,Six w j b m g capf->Calls prog 45 #[.pointer (some ⟨x,0,none⟩),.string call,.func (.func 91) #[] #[.pointer (some ⟨w.heap.size+1,0,none⟩),.pointer (some ⟨w.heap.size,0,none⟩),.pointer (some ⟨w.heap.size+1+1,0,none⟩),.pointer (some ⟨w.heap.size+1+1+1+1,0,none⟩),.pointer (some ⟨w.heap.size+1+1+1+1+1,0,none⟩)]] j λe a=>∃ v,e=.returned v/\P v a/\a.heap[w.heap.size+1+1+1]?=some (.cells #[.string ⟨#[]⟩,.string ⟨#[]⟩] 42)/\a.heap[w.heap.size+1+1+1+1]?=some (.cells #[.string fk,.string fv] 42)/\a.heap[w.heap.size+1+1+1+1+1]?=some (.cells #[.bool fb] 4)):
  Calls prog 47 #[.pointer (some ⟨b,0,none⟩),.string call,.bool m,.func (.func g) #[] capf] w λe Z=>∃ v a,e=.returned (.tuple #[.agg #[.string fk,.string fv],.bool fb,v])/\P v a/\a.heap[w.heap.size+1+1+1]?=some (.cells #[.string ⟨#[]⟩,.string ⟨#[]⟩] 42)/\Kp [w.heap.size+1+1+1] a Z:=by
 have J:=hid E;clear E;have ac:=zM;have aa:=ζ o;have O:b<w.heap.size+1:=oM
 have Q:b<w.heap.size+1+1:=oM
 have R:b<w.heap.size+1+1+1:=oM
 have T:b<w.heap.size+1+1+1+1:=oM
 have U:b<w.heap.size+1+1+1+1+1:=oM
 have D:=ξ o 0;simp only[qD3,zG,zH] at D;go_enter func47,ntmps47;go_wp2_with fail;obtain⟨j,F,s,t,u,B,A,r,y,V⟩:=kM6 w (.cells #[ϖ b] 36) (.cells #[.bool m] 4) (.cells #[.func (.func g) #[] capf] 93) (.cells ϝ 42) (.cells ϝ 42) (.cells #[.bool false] 4);rw[<-F];clear F D O Q R T U;refine (J j ⟨s,t,u,B,A,r,y,V⟩).mono ?_;rintro e a ⟨v,rfl,z,d,p,n⟩;have M:=hid z;clear z s t u B A r y o;have l:=zh d;have ab:=ζ d;have X:=ξ d;have N:=φ d;go_wp2_with fail;have f:a.drew.heap[w.heap.size+1+1+1+1]?=some (.cells #[.string fk,.string fv] 42)/\a.drew.heap[w.heap.size+1+1+1+1+1]?=some (.cells #[.bool fb] 4):=⟨p,n⟩;refine wp_region_held_drew (S:=λW=>W.heap[w.heap.size+1+1+1+1]?=some (.cells #[.string fk,.string fv] 42)/\W.heap[w.heap.size+1+1+1+1+1]?=some (.cells #[.bool fb] 4)) kR f (λ_=>?_);refine zW 0 (.agg #[.string fk,.string fv]) f (·.1) ?_;refine zV 1 (.bool fb) rfl (λW C=>by have c:=ξ C.2 0;simp at c;clear C;go_simp) f ?_;refine zU 2 v f ?_;refine zq 3 λK hK=>?_;go_simp;obtain⟨k,G,q,h⟩:∃ k,k=((a.setCell ⟨w.heap.size+1+1+1,0,none⟩ (.string fk)).setCell ⟨w.heap.size+1+1+1,1,none⟩ (.string fv)).drew/\k.heap[w.heap.size+1+1+1]?=some (.cells #[.string fk,.string fv] 42)/\Kp [w.heap.size+1+1+1] a k:=⟨_,rfl,(qI2 (.string fk) (.string fv) l).1,(qI2 (.string fk) (.string fv) l).2.drew⟩;rw[<-G];clear G X N;have i:=n2 (h.heap p (by rw[List.mem_singleton];omega)) (h.heap n (by rw[List.mem_singleton];omega));refine zk hK i ?_
 refine zq 4 λK hK=>?_;go_simp;refine zk hK i ?_
 refine zq 5 λK hK=>?_;go_simp;refine zk hK i ?_
 refine zd ?_;have L:=zh h;have H:=ξ q 0;have I:=ξ q 1;simp only[zG,zH,zI] at H I;clear i f q h p n d;go_wp2;refine bodyPost_ret (v:=.tuple #[.agg #[.string fk,.string fv],.bool fb,v]) (by simp[results,results47,go_sem,H,I]) rfl ⟨v,a,rfl,M,l,L⟩
theorem jG3(E)(x A n:Nat)(t)(s)(r)(c:Nat)(key)(C:Int)(call)(u:Bool)(g:Nat)(capf)(o:Option KV)(w)(l:LiveT E w x A n t s r)(m:w.heap[c]?=some (qD3 x key C))(hk:u=true->key.toList.isEmpty=false/\C=t.ch)
  (aa:∀ (args) (W),Sem.run prog (callFunc g args) W=.ok (.enter g args) W)
  (ab:∀ W,E.Dev W->RR E.toEnv W t.h r->Kp (t.St::E.S) w W->Calls prog g (#[τ E.V t.h]++capf) W λe q=>e=.returned (qC7 o)/\E.toEnv.To W q):
  Calls prog 47 #[.pointer (some ⟨c,0,none⟩),.string call,.bool u,.func (.func g) #[] capf] w λe H=>e=.returned (.tuple #[.agg #[.string (pkv o).k,.string (pkv o).v],.bool o.isSome,.nilIface])/\CurT E w H c x t s (pkv o).k:=by
 have aj:=ζ l.hx;have X:=ζ l.hSt;have y:=ω m l.hSt dC;have ag:=ζ m;refine (zL4 (fk:=(pkv o).k) (fv:=(pkv o).v) (fb:=o.isSome) (P:=λv f=>v=.nilIface/\CurT E w f c x t s (pkv o).k) m ?_).mono ?_
 rotate_left
 .rintro e H ⟨v,f,rfl,⟨rfl,d⟩,hR,hK3⟩;exact⟨rfl,E.keepX _ _ _ d.dev hK3 (OffD.one hR dC),hK3.ho d.hSt,hK3.ho d.hC,d.kp.trans hK3 (by intro i b ac;simp at b;omega)⟩
 rintro I ⟨L,O,Q,T,R,J,p,ai⟩;have a:=l.more p;refine (qP3 none dC x t.St 91 t s s #[] #[ϖ (w.heap.size+1),ϖ w.heap.size,ϖ (w.heap.size+1+1),ϖ (w.heap.size+1+1+1+1),ϖ (w.heap.size+1+1+1+1+1)] _ ((w.heap.size+1+1+1+1)::(w.heap.size+1+1+1+1+1)::c::E.S) (λW w1=>E.Dev w1/\Ϙ w1 t.St (θ 1 s)/\w1.heap[w.heap.size+1+1+1+1]?=some (.cells #[.string (pkv o).k,.string (pkv o).v] 42)/\w1.heap[w.heap.size+1+1+1+1+1]?=some (.cells #[.bool o.isSome] 4)/\Ϙ w1 c (qD3 x (pkv o).k t.ch)) I a.hx a.over rfl a.hSt a.po a.xS (zY3 _) (λi b=>by
  simp only[mC] at b;rcases b with h|h|h|h
  .omega
  .omega
  .omega
  .exact E.low I a.dev i h) ?_).mono ?_
 .intro W hK V;have k:=a.devS hK;have D:=hK.heap (p.hp m) (by simp;exact y);have F:=hK.ho R;have d:=hK.ho J;refine (kA4 E (w.heap.size+1) w.heap.size (w.heap.size+1+1) (w.heap.size+1+1+1+1) (w.heap.size+1+1+1+1+1) c x g capf u key C t o W ⟨hK.ho O,hK.ho L,hK.ho Q,F,d,D,hK.heap a.hx (by simp;exact a.xS),a.on,k,oM⟩ hk aa (λq B=>ab q B.dev ((a.rr.keepT hK (Apt.one a.hSt dC)).to k B) (((p.mono (S':=t.St::E.S) sM).trans hK (by simp +contextual)).trans B.kp (by simp +contextual)))).mono ?_;rintro e f ⟨rfl,Y,Z,hc,w1,j,z⟩;have M:=E.stay k j D dC;have G:Ϙ f t.St (θ 1 s):=z.heap (E.stay k j V dC) (by simp;exact⟨oM,oM,λe=>y e.symm⟩);have ad:=(OffD.one (E.stay k j F dC) dC).cons ((OffD.one (E.stay k j d dC) dC).cons (OffD.one M dC));exact⟨rfl,⟨E.keepX w1 f _ j.dev z ad,G,Y,Z,hc⟩,(j.kp.mono (S':=t.St::(w.heap.size+1+1+1+1)::(w.heap.size+1+1+1+1+1)::c::E.S) (by simp +contextual)).trans z (by intro i b _;simp at b |-;rcases b with h | h | h<;>simp[h]),G⟩
 rintro e f ⟨v,rfl,hv,hSt2,hK2,W,w1,Bb,⟨hd1,hS1,hP1,hB1,hC1⟩,hKW,hb1,hb2,hb3,hKB⟩;have ae:v=.nilIface:=hv;subst ae;have ah:=X;have af:w.heap.size+6<=Bb:=oM
 have S:=hKB.ho hP1;have K:=hKB.ho hB1;have N:=hKB.heap hC1 (by simp;exact⟨y,oM⟩);have U:=hK2.heap T (by
  simp only[mC,not_or];refine⟨oM,oM,oM,oM,λh=>?_⟩;have:=E.low w l.dev _ h;omega)
 exact⟨_,rfl,⟨rfl,⟨E.keepX w1 f _ hd1 hKB (qN9 hS1 hb3),hSt2,N,(p.mono (S':=t.St::c::E.S) sM).trans hK2 (by intro i b ac;simp at b |-;rcases b with h | h | h | h | h;simp[h];omega;omega;simp[h];simp[h])⟩⟩,U,S,K⟩
theorem jG5(E)(x A n:Nat)(t)(s)(r)(l:Nat)(key)(q:Int)(call)(y:Bool)(g:Nat)(capf)(w)(h:LiveT E w x A n t s r)(f:w.heap[l]?=some (qD3 x key q))(M:y=true)(p:key.toList.isEmpty=true\/q≠t.ch):
  Calls prog 47 #[.pointer (some ⟨l,0,none⟩),.string call,.bool y,.func (.func g) #[] capf] w λe u=>∃ v,e=.returned (.tuple #[.agg #[.string ⟨#[]⟩,.string ⟨#[]⟩],.bool false,v])/\ErrV u v (some 11)/\BadT E w u t s:=by
 have U:=ζ h.hx;have S:=ζ h.hSt;have F:=ω f h.hSt dC;have R:=ζ f;subst M;refine (zL4 (fk:=⟨#[]⟩) (fv:=⟨#[]⟩) (fb:=false) (P:=λv d=>ErrV d v (some 11)/\BadT E w d t s) f ?_).mono ?_
 rotate_left
 .rintro e u ⟨v,d,rfl,⟨hE,hB⟩,hR,hK3⟩;exact⟨v,rfl,hE.keep hK3 (λi b c Q e=>by rw[mS b,hR] at e;cases e),E.keepX _ _ _ hB.dev hK3 (OffD.one hR dC),hK3.ho hB.hSt,hB.kp.trans hK3 (by intro i b N;simp at b;omega)⟩
 rintro O ⟨D,I,J,K,B,z,o,T⟩;have a:=h.more o;refine (qP3 (some 11) dC x t.St 91 t s s #[] #[ϖ (w.heap.size+1),ϖ w.heap.size,ϖ (w.heap.size+1+1),ϖ (w.heap.size+1+1+1+1),ϖ (w.heap.size+1+1+1+1+1)] _ [] (λW w1=>E.Dev w1/\Ϙ w1 t.St (θ 1 s)) O a.hx a.over rfl a.hSt a.po a.xS (zY3 _) sM ?_).mono ?_
 .intro W hK L;have C:=a.devS hK;have G:=hK.heap (o.hp f) (by simp;exact F);have H:=hK.ho I;refine (kA5 E (w.heap.size+1) w.heap.size (w.heap.size+1+1) (w.heap.size+1+1+1+1) (w.heap.size+1+1+1+1+1) l x g capf key q t W ⟨H,hK.ho D,hK.ho J,hK.ho B,hK.ho z,G,hK.heap a.hx (by simp;exact a.xS),a.on,C,oM⟩ p).mono ?_;rintro e w1 ⟨rfl,m⟩;have j:=m.hp L;exact⟨rfl,⟨E.keepX W w1 [] C m (λk p=>by simp at p),j⟩,m.mono sM,j⟩
 rintro e d ⟨v,rfl,hv,hSt2,hK2,W,w1,Bb,⟨hd1,j⟩,hKW,hb1,hb2,hb3,hKB⟩;exact⟨v,rfl,⟨hv,E.keepX w1 d _ hd1 hKB (qN9 j hb3),hSt2,(o.mono (S':=t.St::E.S) sM).trans hK2 (by intro i b N;simp at b |-;simp[b])⟩,hK2.ho K,hK2.ho B,hK2.ho z⟩
theorem jG4(x:Nat)(t)(s)(k:Nat)(key)(C:Int)(call)(m:Bool)(g:Nat)(capf)(w)(A:w.heap[x]?=some (qA1 t))(u:t.over=true)(l:w.heap[t.St]?=some (θ 0 s))(y:s.po=false)(B:x≠t.St)(o:w.heap[k]?=some (qD3 x key C)):
  Calls prog 47 #[.pointer (some ⟨k,0,none⟩),.string call,.bool m,.func (.func g) #[] capf] w λe d=>∃ v,e=.returned (.tuple #[.agg #[.string ⟨#[]⟩,.string ⟨#[]⟩],.bool false,v])/\ErrV d v (some 5)/\d.heap[t.St]?=some (θ 0 s)/\Kp [t.St] w d:=by
 have I:=ζ l;refine (zL4 (fk:=⟨#[]⟩) (fv:=⟨#[]⟩) (fb:=false) (P:=λv a=>ErrV a v (some 5)/\Ϙ a t.St (θ 0 s)/\Kp [t.St] w a) o ?_).mono ?_
 rotate_left
 .rintro e d ⟨v,a,rfl,⟨hE,hB1,hB2⟩,hR,hK3⟩;exact⟨v,rfl,hE.keep hK3 (λi j c E e=>by rw[mS j,hR] at e;cases e),hK3.ho hB1,hB2.trans hK3 (by intro i j J;simp at j;omega)⟩
 rintro D ⟨F,G,H,q,p,n,f,K⟩;refine (qT1 x t.St 91 t s #[] _ _ D (f.hp A) u rfl (f.hp l) y B).mono ?_;rintro e a ⟨v,rfl,z,r,b⟩;exact⟨v,rfl,⟨z,r,(f.mono sM).trans b (λ_ h _=>h)⟩,b.ho q,b.ho p,b.ho n⟩
theorem kR1:Up λ_=>true:=λ_ _ _ _=>rfl
theorem jJ6:qR2 λ_=>true:=λ_ _ _ _=>rfl
theorem jJ7(k):qR2 λa=>kl a k:=λa b h hb=>qO4 h hb
theorem zI5(w)(o1 o2):∃ a,a=(w.alloc o1).alloc o2/\a.heap[w.heap.size]?=some o1/\a.heap[w.heap.size+1]?=some o2/\Kp [] w a/\a.heap.size=w.heap.size+2:=by
 refine⟨_,rfl,ν _ (υ _ _),?_,(kF.alloc _).alloc _,sM⟩;have e:=υ (w.alloc o1) o2;simpa using e
theorem xK7(w)(o1):∃ a,a=w.alloc o1/\a.heap[w.heap.size]?=some o1/\Kp [] w a/\a.heap.size=w.heap.size+1:=⟨_,rfl,υ _ _,kF.alloc _,sM⟩
def Hw(how:Nat):Prop:=how=0∨how=1∨how=2∨how=3∨how=4
def mvF:Nat→Nat
 | 0=>22
 | 1=>25
 | 2=>27
 | 3=>23
 | _=>26
def mvG:Nat→Nat
 | 0=>48
 | 1=>54
 | 2=>59
 | 3=>51
 | _=>57
def mvI:Nat→Nat
 | 0=>50
 | 1=>56
 | 2=>60
 | 3=>52
 | _=>58
def mvX(Cb:Nat)(sk:ByteArray):Nat→Option Obj
 | 0=>none
 | 1=>none
 | 2=>some (.cells #[.string sk] 9)
 | _=>some (.cells #[.pointer (some ⟨Cb,0,none⟩)] 36)
def mvC(X:Nat):Nat→Array Value
 | 0=>#[]
 | 1=>#[]
 | _=>#[.pointer (some ⟨X,0,none⟩)]
def mvB(key sk:ByteArray):Nat→ByteArray→Bool
 | 0=>fun _=>true
 | 1=>fun _=>true
 | 2=>fun k=>!kl k sk
 | 3=>fun k=>kl key k
 | _=>fun k=>kl k key
def mvO(ps:List KV)(key sk:ByteArray):Nat→Option KV
 | 0=>ps.find? fun _=>true
 | 1=>qF0 (fun _=>true) ps
 | 2=>ps.find? fun q=>!kl q.k sk
 | 3=>ps.find? fun q=>kl key q.k
 | _=>qF0 (fun k=>kl k key) ps
def mvT:Nat→Nat
 | 0=>49
 | 2=>49
 | 3=>49
 | _=>55
theorem kB7{a:Nat}(b:Hw a)(args)(W):Sem.run prog (callFunc (mvG a) args) W=.ok (.enter (mvG a) args) W:=by
 rcases b with rfl|rfl|rfl|rfl|rfl<;>simp[mvG,go_sem,func48,func54,func59,func51,func57]
theorem kB9{a:Nat}(b:Hw a)(args)(W):Sem.run prog (callFunc (mvI a) args) W=.ok (.enter (mvI a) args) W:=by
 rcases b with rfl|rfl|rfl|rfl|rfl<;>simp[mvI,go_sem,func50,func56,func60,func52,func58]
theorem kC0{a:Nat}(g:Hw a){X c x:Nat}{key sk}{h:Int}(k){w}(b:∀ o,mvX c sk a=some o->w.heap[X]?=some o)(d:w.heap[c]?=some (qD3 x key h)):Calls prog (mvI a) (#[.string k]++mvC X a) w λe w'=>e=.returned (.bool (mvB key sk a k))/\Kp [] w w':=by
 have j:=ζ d;have f:=ξ d 1;simp only[qD3,zG,zH,zI] at f;rcases g with rfl|rfl|rfl|rfl|rfl
 all_goals simp only[mvI,mvC,mvB,aT,cA,nA]
 all_goals try (have b:=b _ rfl;have i:=ζ b;have c0:=ξ b 0;simp only[zG,zH,zI] at c0)
 all_goals first | go_enter func50,ntmps50 | go_enter func56,ntmps56 | go_enter func60,ntmps60 | go_enter func52,ntmps52 | go_enter func58,ntmps58
 all_goals go_wp2
 all_goals go_ret
 all_goals refine⟨?_,Kp.refl _ _⟩
 all_goals first | rfl | (rw[<-xE5];rfl) | simp[kl]
theorem kC2{a:Nat}(i:Hw a){E:SEnv}{r:Root}{h:HL}{X j x:Nat}{key sk:ByteArray}{p:Int}{w:World}(n:∀ o,mvX j sk a=some o->w.heap[X]?=some o)(m:w.heap[j]?=some (qD3 x key p))(b:E.Dev w)(g:RR E.toEnv w h r)(f:RGood r):Calls prog (mvT a) #[τ E.V h,.func (.func (mvI a)) #[] (mvC X a)] w λe w'=>e=.returned (qC7 (mvO r.cont key sk a))/\E.toEnv.To w w':=by
 have c:Asks E.toEnv w (mvI a) (mvC X a) (mvB key sk a):=λW k l=>kC0 i k (λo e=>by
  have:=n o e;rcases i with rfl|rfl|rfl|rfl|rfl<;>first|cases e|skip
  all_goals exact E.stay b l this dC) (E.stay b l m dC)
 have d:=kB9 i;rcases i with rfl|rfl|rfl|rfl|rfl
 .exact zI2 E.toEnv r h _ _ _ w b g f kR1 c d
 .exact xP8 E r h _ _ _ w b g f jJ6 c d
 .exact zI2 E.toEnv r h _ _ _ w b g f (xQ5 sk) c d
 .exact zI2 E.toEnv r h _ _ _ w b g f (xQ6 key) c d
 .exact xP8 E r h _ _ _ w b g f (jJ7 key) c d
theorem kB8{a:Nat}(B:Hw a){E:SEnv}{r:Root}{h:HL}{X m x:Nat}{key sk:ByteArray}{L:Int}{w:World}(y:∀ o,mvX m sk a=some o->w.heap[X]?=some o)(s:w.heap[m]?=some (qD3 x key L))(j:E.Dev w)(D:RR E.toEnv w h r)(A:RGood r):Calls prog (mvG a) (#[τ E.V h]++mvC X a) w λe w'=>e=.returned (qC7 (mvO r.cont key sk a))/\E.toEnv.To w w':=by
 have P:=zM;have f:Hid (∀ b,Kp [] w b->Ω (mvT a) #[τ E.V h,.func (.func (mvI a)) #[] (mvC X a)] b λe w'=>e=ϱ (qC7 (mvO r.cont key sk a))/\E.toEnv.To b w'):=λb hK=>kC2 B (λo e=>hK.heap (y o e) sM) (hK.hp s) (Env.To.of0 j hK).dev (D.keepT hK (Apt.nil _ _)) A;have n:=zh j;obtain⟨o,C⟩:=eY (mvO r.cont key sk a);rw[C] at f |-;obtain⟨fk,fv,fb,z⟩:∃ fk fv fb,qC7 o=.tuple #[.agg #[.string fk,.string fv],.bool fb]:=by
  cases o with
  | none=>exact⟨_,_,_,rfl⟩
  | some p=>exact⟨_,_,_,rfl⟩
 rw[z] at f |-;clear y s j D A C z;rw[τ];rcases B with rfl|rfl|rfl|rfl|rfl
 all_goals simp only[mvG,mvC,aT,cA,nA]
 all_goals first | go_enter func48,ntmps48 | go_enter func54,ntmps54 | go_enter func59,ntmps59 | go_enter func51,ntmps51 | go_enter func57,ntmps57
 all_goals
  go_wp2_with fail;obtain⟨b,F,J,u,g,Q⟩:=zI5 w (.cells (ϟ E.V h) 89) (.cells ϝ 42);rw[<-F];clear F J;refine (f b g).mono ?_;rintro e w1 ⟨rfl,i⟩;have d:=i.new (k:=w.heap.size+1) n oM u;have O:=ζ d;have R:=ξ d;have N:=φ d;have q:=zh d;have I:=zh ((Env.To.of0 n g).trans i);clear i d u g;go_wp2;have l:=qI2 (.string fk) (.string fv) q.out;have K:=SEnv.storeX I oM (λc t M e=>by rw[q.out] at e;cases e;decide) l.2;have G:=ξ l.1 0;have H:=ξ l.1 1;simp only[zG,zH,zI] at G H;refine bodyPost_ret (v:=.tuple #[.agg #[.string fk,.string fv],.bool fb]) (by simp[results,results48,results54,results59,results51,results57,go_sem,G,H]) rfl ⟨rfl,K⟩
theorem CurT.from{E}{w w0 w'}{Cb x:Nat}{t}{s}{k}(hK:Kp [] w w0)(h:CurT E w0 w' Cb x t s k):CurT E w w' Cb x t s k:=⟨h.dev,h.hSt,h.hC,(hK.mono sM).trans h.kp (λ_ h _=>h)⟩
def mvA(Cb:Nat)(sk:ByteArray):Nat→Array Value
 | 2=>#[.pointer (some ⟨Cb,0,none⟩),.string sk]
 | _=>#[.pointer (some ⟨Cb,0,none⟩)]
def mvH:Nat→Bool
 | 3=>true
 | 4=>true
 | _=>false
abbrev mvv(k v:ByteArray)(b:Bool)(e:Value):Ending:=.returned (.tuple #[.agg #[.string k,.string v],.bool b,e])
theorem c_k{how:Nat}(g:Hw how){Cb:Nat}{sk fk fv}{fb:Bool}{P:Value->World->Prop}{S}{w}(z:∀ k∈S,k<w.heap.size)(K:Cb<w.heap.size)
  (C:∀ c D,Kp [] w c->(∀ o,mvX Cb sk how=some o->c.heap[w.heap.size]?=some o)->Calls prog 47 #[.pointer (some ⟨Cb,0,none⟩),.string D,.bool (mvH how),.func (.func (mvG how)) #[] (mvC w.heap.size how)] c λe w1=>∃ v,e=mvv fk fv fb v/\P v w1/\Kp S c w1):
  Calls prog (mvF how) (mvA Cb sk how) w λe I=>∃ v w1 R,e=mvv fk fv fb v/\P v w1/\Kp S w w1/\w.heap.size<=R/\w1.heap[R]?=some (.cells #[.string ⟨#[]⟩,.string ⟨#[]⟩] 42)/\Kp [R] w1 I:=by
 have L:=zM;have y:=zh z;have u:=hid C;clear z C;have g:(how=0\/how=1)\/how=2\/how=3\/how=4:=by unfold Hw at g;omega
 rcases g with g|g
 .rcases g with rfl|rfl
  all_goals
   simp only[mvF,mvA]
   first | go_enter func22,ntmps22 | go_enter func25,ntmps25
   go_wp2_with fail;obtain⟨c,m,l,d,H⟩:=xK7 w (.cells ϝ 42);rw[<-m];clear m;refine (u c _ d (λ_ e=>by cases e)).mono ?_;rintro e w1 ⟨v,rfl,j,f⟩;have a:=f.heap l (λh=>by have:=y.out _ h;omega);have G:=ζ a;have J:=ξ a;have F:=φ a;have b:=zh (n3 a j ((d.mono sM).trans f (λ_ h _=>h)));clear a j f d l;go_wp2;have i:=qI2 (.string fk) (.string fv) b.1;have p:=ξ i.1 0;have q:=ξ i.1 1;simp only[zG,zH,zI] at p q;refine bodyPost_ret (v:=.tuple #[.agg #[.string fk,.string fv],.bool fb,v]) (by simp[results,results22,results25,results27,results23,results26,go_sem,p,q]) rfl ⟨v,w1,w.heap.size,rfl,b.2.1,b.2.2,oM,b.1,i.2⟩
 .rcases g with rfl|rfl|rfl
  all_goals
   simp only[mvF,mvA]
   first | go_enter func27,ntmps27 | go_enter func23,ntmps23 | go_enter func26,ntmps26
   go_wp2_with fail;obtain⟨c,m,B,l,d,H⟩:=zI5 w _ (.cells ϝ 42);rw[<-m];clear m;refine (u c _ d (λ_ e=>by cases e;exact B)).mono ?_;clear B;rintro e w1 ⟨v,rfl,j,f⟩;have a:=f.heap l (λh=>by have:=y.out _ h;omega);have G:=ζ a;have J:=ξ a;have F:=φ a;have b:=zh (n3 a j ((d.mono sM).trans f (λ_ h _=>h)));clear a j f d l;go_wp2;have i:=qI2 (.string fk) (.string fv) b.1;have p:=ξ i.1 0;have q:=ξ i.1 1;simp only[zG,zH,zI] at p q;refine bodyPost_ret (v:=.tuple #[.agg #[.string fk,.string fv],.bool fb,v]) (by simp[results,results22,results25,results27,results23,results26,go_sem,p,q]) rfl ⟨v,w1,w.heap.size+1,rfl,b.2.1,b.2.2,oM,b.1,i.2⟩
section
variable {how:Nat} {E:SEnv} {x A n:Nat} {t:Tx} {s:Sto} {r:Root} {Cb:Nat} {key sk:ByteArray} {since:Int} {w:World}
theorem xZ4(d:Hw how)(a:LiveT E w x A n t s r)(b:w.heap[Cb]?=some (qD3 x key since))(f:3<=how->key.toList.isEmpty=false/\since=t.ch):
  Calls prog (mvF how) (mvA Cb sk how) w λe j=>e=mvv (pkv (mvO r.cont key sk how)).k (pkv (mvO r.cont key sk how)).v (mvO r.cont key sk how).isSome .nilIface/\CurT E w j Cb x t s (pkv (mvO r.cont key sk how)).k:=by
 have m:=ζ b;have C:=ζ a.hSt;have D:∀ {o:Obj},mvX Cb sk how=some o->∃ c u,o=.cells c u/\u∈[9,36]:=λe=>by
  rcases d with rfl|rfl|rfl|rfl|rfl<;>cases e<;>exact⟨_,_,rfl,dC⟩
 refine (c_k (fk:=(pkv (mvO r.cont key sk how)).k) (fv:=(pkv (mvO r.cont key sk how)).v) (fb:=(mvO r.cont key sk how).isSome) (P:=λv w1=>v=.nilIface/\CurT E w w1 Cb x t s (pkv (mvO r.cont key sk how)).k) (S:=t.St::Cb::E.S) d (λk f=>by
  simp only[mC] at f;rcases f with h|h|h
  .omega
  .omega
  .exact E.low w a.dev k h) m (λB l hK p=>(jG3 E x A n t s r Cb key since l _ _ _ (mvO r.cont key sk how) B (a.more hK) (hK.hp b) (λh=>f (by rcases d with rfl | rfl | rfl | rfl | rfl<;>first | decide | cases h)) (kB7 d) (λW q z g=>kB8 d (λo e=>?_) (g.heap (hK.hp b) (by simp only[mC,not_or];exact⟨ω b a.hSt dC,E.nin a.dev b dC⟩)) q z a.good)).mono ?_)).mono ?_
 .exact g.heap (p o e) (by simp only[mC,not_or];exact⟨oM,λh=>by have:=E.low w a.dev _ h;omega⟩)
 .rintro e w1 ⟨rfl,h⟩;exact⟨_,rfl,⟨rfl,CurT.from hK h⟩,h.kp⟩
 .rintro e j ⟨v,w1,R,rfl,⟨rfl,hB⟩,hK,hR,hR1,hK2⟩;exact⟨rfl,E.keepX _ _ _ hB.dev hK2 (OffD.one hR1 dC),hK2.ho hB.hSt,hK2.ho hB.hC,hB.kp.trans hK2 (by intro i y F;simp at y;omega)⟩
theorem xZ5(k:Hw how)(o:w.heap[x]?=some (qA1 t))(l:t.over=true)(h:w.heap[t.St]?=some (θ 0 s))(m:s.po=false)(p:x≠t.St)(g:w.heap[Cb]?=some (qD3 x key since)):
  Calls prog (mvF how) (mvA Cb sk how) w λe a=>∃ v,e=mvv ⟨#[]⟩ ⟨#[]⟩ false v/\ErrV a v (some 5)/\a.heap[t.St]?=some (θ 0 s)/\Kp [t.St] w a:=by
 have u:=ζ h;refine (c_k (fk:=⟨#[]⟩) (fv:=⟨#[]⟩) (fb:=false) (P:=λv w1=>ErrV w1 v (some 5)/\Ϙ w1 t.St (θ 0 s)) (S:=[t.St]) k sO (ζ g) (λw0 call hK _=>(jG4 x t s Cb key since call _ _ _ w0 (hK.hp o) l (hK.hp h) m p (hK.hp g)).mono ?_)).mono ?_
 .rintro e w1 ⟨v,rfl,b,d,j⟩;exact⟨v,rfl,⟨b,d⟩,j⟩
 .rintro e a ⟨v,w1,R,rfl,⟨b,d⟩,hK,hR,hR1,hK2⟩;exact⟨v,rfl,b.keep hK2 (λi f c q e=>by rw[mS f,hR1] at e;cases e),hK2.ho d,hK.trans hK2 (by intro i f y;simp at f;omega)⟩
theorem xZ6(m:Hw how)(u:3<=how)(d:LiveT E w x A n t s r)(l:w.heap[Cb]?=some (qD3 x key since))(a:key.toList.isEmpty=true\/since≠t.ch):
  Calls prog (mvF how) (mvA Cb sk how) w λe g=>∃ v,e=mvv ⟨#[]⟩ ⟨#[]⟩ false v/\ErrV g v (some 11)/\BadT E w g t s:=by
 have y:=ζ d.hSt;refine (c_k (fk:=⟨#[]⟩) (fv:=⟨#[]⟩) (fb:=false) (P:=λv w1=>ErrV w1 v (some 11)/\BadT E w w1 t s) (S:=t.St::E.S) m (λk a=>by
  simp only[mC] at a;rcases a with h|h
  .omega
  .exact E.low w d.dev k h) (ζ l) (λp o hK _=>(jG5 E x A n t s r Cb key since o _ _ _ p (d.more hK) (hK.hp l) (by rcases m with rfl | rfl | rfl | rfl | rfl<;>first | rfl | omega) a).mono ?_)).mono ?_
 .rintro e w1 ⟨v,rfl,b,j⟩;exact⟨v,rfl,⟨b,BadT.from hK j⟩,j.kp⟩
 .rintro e g ⟨v,w1,R,rfl,⟨b,hB⟩,hK,hR,hR1,hK2⟩;exact⟨v,rfl,b.keep hK2 (λi f c q e=>by rw[mS f,hR1] at e;cases e),E.keepX _ _ _ hB.dev hK2 (OffD.one hR1 dC),hK2.ho hB.hSt,hB.kp.trans hK2 (by intro i f z;simp at f;omega)⟩
end
theorem jB2(args)(W):Sem.run prog (callFunc 46 args) W=.ok (.enter 46 args) W:=by
 simp[go_sem,func46]
theorem jI3(f a x:Nat)(w)(c:w.heap[f]?=some (.cells #[.pointer (some ⟨x,0,none⟩)] 32))(b:w.heap[a]?=some (.cells #[.pointer none] 36)):
  Calls prog 46 #[.pointer (some ⟨f,0,none⟩),.pointer (some ⟨a,0,none⟩)] w λe d=>e=qB5 none/\∃ Cb,w.heap.size<=Cb/\d.heap[Cb]?=some (qD3 x ⟨#[]⟩ 0)/\d.heap[a]?=some (.cells #[.pointer (some ⟨Cb,0,none⟩)] 36)/\Kp [a] w d:=by
 have j:=ζ c;have i:=ζ b;have l:=ϻ c 0;have k:=ϻ b 0;have h:=φ b 0;have g:=zh b;clear c b;go_enter func46,ntmps46;go_wp2
 go_end0
 refine⟨rfl,w.heap.size,lR,?_,?_,?_⟩
 .have e:=υ (w.setCell ⟨a,0,none⟩ (ϖ w.heap.size)) (qD3 x ⟨#[]⟩ 0);rw[show (w.setCell ⟨a,0,none⟩ (ϖ w.heap.size)).heap.size=w.heap.size by simp[World.setCell]] at e;exact e
 .exact ν _ (μ g 0 _)
 .exact ((Kp.refl [a] w).sc _).alloc _
theorem kO5(E)(x A n:Nat)(t)(s)(r)(w)(d:LiveT E w x A n t s r):
  Calls prog 21 #[.pointer (some ⟨x,0,none⟩)] w λe y=>∃ a,e=.returned (.tuple #[.pointer (some ⟨a,0,none⟩),.nilIface])/\w.heap.size<=a/\y.heap[a]?=some (qD3 x ⟨#[]⟩ 0)/\BadT E w y t s:=by
 have M:=zM;have HL:=zh d;have P:=ζ d.hx;have K:=ζ d.hSt;clear d;go_enter func21,ntmps21;go_wp2_with fail;obtain⟨z,u,q,p,g,N⟩:=zI5 w (.cells #[ϖ x] 32) (.cells #[.pointer none] 36);rw[<-u];clear u;have b:=HL.out.more g;refine (qP3 none dC x t.St 46 t s s #[] #[ϖ w.heap.size,ϖ (w.heap.size+1)] _ [w.heap.size+1] (λW w1=>E.Dev w1/\Ϙ w1 t.St (θ 1 s)/\∃ a,z.heap.size<=a/\Ϙ w1 a (qD3 x ⟨#[]⟩ 0)/\w1.heap[w.heap.size+1]?=some (.cells #[ϖ a] 36)) z b.hx b.over rfl b.hSt b.po b.xS (jB2 _) (λi f=>by simp at f;omega) ?_).mono ?_
 .intro W hK F;have G:=b.devS hK;have o:=hK.ho p;have O:=hK.size;refine (jI3 w.heap.size (w.heap.size+1) x W (hK.ho q) o).mono ?_;rintro e w1 ⟨rfl,a,I,C,D,j⟩;have c:=j.ho F;exact⟨rfl,⟨E.keepX W w1 _ G j (OffD.one o dC),c,a,oM,C,D⟩,j.mono (by simp +contextual),c⟩
 rintro e l ⟨v,rfl,hv,hSt2,hK2,W,w1,Bb,⟨hd1,c,a,hCb,hC1,hP1⟩,hKW,hb1,hb2,hb3,hKB⟩;have H:v=.nilIface:=hv;subst H;have m:=hKB.heap hC1 (by simp only[mC,lN,or_false,not_or];exact⟨ω hC1 c dC,ω hC1 hb3 dC⟩);have k:=hKB.heap hP1 (by simp only[mC,lN,or_false,not_or];exact⟨ω hP1 c dC,ω hP1 hb3 dC⟩);have B:Hid (w.heap.size<=a/\Ϙ l a (qD3 x ⟨#[]⟩ 0)/\BadT E w l t s):=⟨oM,m,E.keepX w1 l _ hd1 hKB (qN9 c hb3),hSt2,(g.mono (S':=t.St::E.S) sM).trans hK2 (by intro i f L;simp at f |-;rcases f with h | h;simp[h];omega)⟩;have J:=ζ k;have Q:=ϻ k 0;clear hv hSt2 hK2 hd1 c hC1 hP1 hKW hb3 hKB b q p g m k;go_wp2;refine bodyPost_ret (v:=.tuple #[ϖ a,.nilIface]) (by simp[results,results21,go_sem]) rfl ?_;exact⟨a,rfl,B⟩
theorem kO6(x:Nat)(t)(s)(w)(l:w.heap[x]?=some (qA1 t))(q:t.over=true)(g:w.heap[t.St]?=some (θ 0 s))(r:s.po=false)(m:x≠t.St):
  Calls prog 21 #[.pointer (some ⟨x,0,none⟩)] w λe d=>∃ v,e=.returned (.tuple #[.pointer none,v])/\ErrV d v (some 5)/\d.heap[t.St]?=some (θ 0 s)/\Kp [t.St] w d:=by
 have A:=zM;have C:=ζ l;have z:=ζ g;have o:=zh m;clear m;go_enter func21,ntmps21;go_wp2_with fail;obtain⟨u,k,p,f,a,B⟩:=zI5 w (.cells #[ϖ x] 32) (.cells #[.pointer none] 36);rw[<-k];clear k;refine (qT1 x t.St 46 t s #[] _ _ u (a.hp l) q rfl (a.hp g) r o).mono ?_;rintro e E ⟨v,rfl,j,i,b⟩;have c:=b.ho f;have n:=zh (n3 j i ((a.mono sM).trans b (λ_ h _=>h)));have y:=ζ c;have D:=ϻ c 0;clear j i b p f a c;go_wp2;refine bodyPost_ret (v:=.tuple #[.pointer none,v]) (by simp[results,results21,go_sem]) rfl ?_;exact⟨v,rfl,n⟩
def qM5(Cb:Nat)(key:ByteArray)(on:Bool)(stp:Int):Obj:=.cells #[.pointer (some ⟨Cb,0,none⟩),.string key,.bool on,.int .i64 stp] 282
theorem jS1:(prog.info? 203).map (fun i=>(i.zero,i.size,i.bytes))=some (some (.pointer none),1,8):=kR
def zV0(f:TF)(tb base:Nat)(css:List Nat)(R:Nat→World→Prop)(S:List Nat)(w w':World):Prop:=
 ∃ w1 Cb cb v' L,R Cb w1∧Kp S w w1∧w1.heap.size≤cb∧w'.heap[cb]?=some (qM5 Cb ⟨#[]⟩ false 0)∧w'.heap[tb]?=some (tob { f with cs:=v' })∧w'.ownsRow base 203 1 v' (css.length+1) (qJ3 (css++[cb]))∧Kp L w1 w'∧(∀ i∈L,i=tb∨f.cs.ownBlock=some i)∧∀ i,v'.ownBlock=some i→f.cs.ownBlock=some i∨w1.heap.size≤i
theorem kI2(B tb A n C:Nat)(cache)(H I:Int)(k:KF)(f:TF)(ps)(S)(R:World→Prop)(w)(a:LkIn w B tb A n C cache H I k f ps)(p:ProgS w S)(u:f.dn=true)(t:Calls prog 21 #[.pointer (some ⟨f.x,0,none⟩)] w fun e c=>∃ v,e=.returned (.tuple #[.pointer none,v])∧ErrV c v (some 5)∧R c∧Kp S w c):
  Calls prog 136 #[.pointer (some ⟨B,0,none⟩),.pointer (some ⟨tb,0,none⟩)] w fun e c=>e=.returned (.bool true)∧qS6 R S w c:=by
 have F:=zh u;clear u;have K:=ζ a.hB;have M:=ζ a.hT;have d:=zh a;have h:=zh p;have r:=a.hT;have z:=ξ r 0;simp only[tob,zG,zH,zI] at z;have E:=t;clear a p r t;go_enter func136,ntmps136;go_wp2_with fail;refine E.mono ?_;rintro e w1 ⟨v,rfl,y,q,b⟩;have o:=h.out.stay b d.hB dC;have s:=h.out.stay b d.hT dC;have x:=h.out.g0 b d.g0 oM;have l:=zh (n2 q b);clear z q b;go_wp2_with fail;refine (qJ7 v (some 5) w1 x y).mono ?_;rintro e N ⟨rfl,g⟩;have i:=g.hp o;have j:=g.hp s;have J:=ζ i;have L:=ζ j;have m:=ξ i 10;simp only[kob,zG,zH,zI] at m;have D:=ξ j 3;simp only[tob,zG,zH,zI] at D;rw[d.out.po] at m;rw[F.out] at D;have G:=zh g;clear o s x y g i j
 go_wp2_with (go_at_call 127;refine (qH6 _ _).mono ?_;rintro e O ⟨rfl,rfl⟩)
 go_ret;exact⟨sM,w1,l.1,l.2,G⟩
theorem kI3(B tb A n C:Nat)(cache)(calls writes:Int)(k:KF)(f:TF)(ps)(base:Nat)(css)(S)(R:Nat->World->Prop)(w)(hI:LkIn w B tb A n C cache calls writes k f ps)(hP:ProgS w S)(hdn:f.dn=false)(hrow:w.ownsRow base 203 1 f.cs css.length (qJ3 css))(hlen:css.length<=100000)(hb:base<=w.heap.size)(hcall:Calls prog 21 #[.pointer (some ⟨f.x,0,none⟩)] w λe w'=>∃ Cb,e=.returned (.tuple #[.pointer (some ⟨Cb,0,none⟩),.nilIface])/\R Cb w'/\Kp S w w'):
  Calls prog 136 #[.pointer (some ⟨B,0,none⟩),.pointer (some ⟨tb,0,none⟩)] w λe w'=>e=.returned (.bool true)/\zV0 f tb base css R S w w':=by
 have HDN:=zh hdn;have HRW:=zh (n2 hrow hb);obtain⟨cb0,cc0,hcs⟩:=qP8 hrow;have HCS:=zh hcs;clear hdn hrow hb hcs;have hBs:=ζ hI.hB;have hTs:=ζ hI.hT;have HI:=zh hI;have HP:=zh hP;have hT:=hI.hT;have t0:=ξ hT 0;simp only[tob,zG,zH,zI] at t0;have HCALL:=hcall;clear hI hP hT hcall;go_enter func136,ntmps136;go_wp2_with fail;refine HCALL.mono ?_;rintro e w1 ⟨Cb,rfl,hR,hK1⟩;have hB1:=HP.out.stay hK1 HI.hB dC;have hT1:=HP.out.stay hK1 HI.hT dC;have hg1:=HP.out.g0 hK1 HI.g0 oM;have HR:=zh (n2 hR hK1);clear t0 hR hK1;go_wp2_with fail;refine (qJ7 .nilIface none w1 hg1 rfl).mono ?_;rintro e w2 ⟨rfl,hK2⟩;have hB2:=hK2.hp hB1;have hT2:=hK2.hp hT1;have hB2s:=ζ hB2;have hT2s:=ζ hT2;have HT2:=zh hT2;have b10:=ξ hB2 10;simp only[kob,zG,zH,zI] at b10;have t3:=ξ hT2 3;have t8:=ξ hT2 8;simp only[tob,zG,zH,zI] at t3 t8;rw[HI.out.po] at b10;rw[HDN.out] at t3;rw[HCS.out] at t8;have HK2:=zh hK2;have hr2:=qF1 (qF1 HRW.1 HR.2 (λk' c t fr h1 h2 e=>absurd ((HP k' h2).2 _ _ _ h1) (by rw[e];decide))) hK2 (λ_ _ _ _ _ h=>by cases h);have hsz1:=HR.out.2.size;have hsz2:=hK2.size;have hbs:=HRW.out.2;obtain⟨w4,hw4,hC4,hT4,hK4,hs4⟩:∃ w4,w4=w2.alloc (.cells #[ϖ Cb,.string ⟨#[]⟩,.bool false,ϊ 0] 282)/\Ϙ w4 w2.heap.size (qM5 Cb ⟨#[]⟩ false 0)/\Ϙ w4 tb (tob f)/\Kp [] w2 w4/\w4.heap.size=w2.heap.size+1:=⟨_,rfl,υ _ _,ν _ hT2,kF.alloc _,sM⟩;have hr4:=qF1 hr2 hK4 (λ_ _ _ _ _ h=>by cases h);obtain⟨v',w6,hr6,hrow6,hgr6,hob6⟩:=zS2 (w4.alloc (.cells #[ϖ w2.heap.size] 203)) base w4.heap.size f.cs css.length (qJ3 css) (ϖ w2.heap.size) 195 203 195 (.pointer none) underlying195 jS1 rfl (World.ownsRow.alloc hr4 _) oM (υ _ _) rfl sO;have hC6:=qN3 hr4 hgr6 hC4 dC;have hT6:=qN3 hr4 hgr6 hT4 dC;obtain⟨b6,c6,hv6⟩:=qP8 hrow6;subst hv6;have HROW6:=zh hrow6;have HG6:=zh hgr6;have HOB:Hid (∀ i,oB (.slice b6 (css.length+1) c6)=some i->f.cs.ownBlock=some i\/w1.heap.size<=i):=λi hi=>(hob6 i hi).imp id (λh=>by simp at h;omega);have HC6:=zh hC6;have HT6:=zh hT6;have HK4:=zh hK4;have hT6s:=ζ hT6;rw[HCS.out] at hr6;rw[hs4,hw4] at hr6;have f8:=φ hT6 8;have HW4:=zh hw4;have hT6c:=ξ hT6 8;simp only[tob,zG,zH,zI] at hT6c;rw[HCS.out] at hT6c;clear hB1 hT1 hg1 hK2 hB2 hT2 hr2 hr4 hK4 hC4 hT4 hC6 hT6 hrow6 hgr6 hob6 hw4 hs4
 go_wp2_with (first | (go_at_call 127;refine (qH6 _ _).mono ?_;rintro e w2 ⟨rfl,rfl⟩) | (at_builtin;(with_reducible refine qL8 ?_ ?_ hr6 ?_);rfl;rfl))
 go_ret;have hsz:=HK2.out.size;have hKt:Kp [tb] w6 (w6.setCell ⟨tb,8,none⟩ (.slice b6 (css.length+1) c6)):=kF.sc _;refine⟨rfl,w1,Cb,w2.heap.size,.slice b6 (css.length+1) c6,tb::f.cs.ownBlock.toList,HR.1,HR.2,hsz,hKt.ho HC6,μ HT6 8 _,?_,?_,λi hi=>?_,HOB⟩
 .have e:qJ3 (css++[w2.heap.size])=qJ3 css++[ϖ w2.heap.size]:=by simp[qJ3]
  rw[e];exact qF1 HROW6 hKt (λk' c t fr h1 h2 e=>by rw[mS h2,HT6.out] at h1;cases h1;revert e;decide)
 .exact ((((HK2.tr HK4).mono (S':=tb::f.cs.ownBlock.toList) sM).alloc _).grown HG6 (λj hj=>.inl (by simp[hj]))).sc _
 .rcases List.mem_cons.1 hi with h|h
  .exact .inl h
  .exact .inr (by simpa using h)
open Go.ChangeMaps
theorem RR.kp{E}{w w'}{h}{r}{S}(a:RR E w h r)(hK:Kp S w w')(b:Apt w S qF5):RR E w' h r:=by
 cases r with
 | none=>exact a
 | «at» n l=>exact RL.keep a hK b
variable {κ:Nat}
def qB8(N rb rs:Int):List UInt8:=toB (qJ0 N rb rs)++List.replicate 96 0
theorem qJ1(N rb rs:Int):(qB8 N rb rs).length=128:=by simp[qB8,qR1,zS6]
theorem zN0(V A n C:Nat)(g p:Int)(i:Nat)(N rb rs:Int)(l)(w)(hV:w.heap[V]?=some (qE4 A n))(h:w.heap[A]?=some (qA8 κ n C (.slice none 0 0) g p))
  (hi:i<n) (hn:n<=1000) (M:w.heap[C]?=some (.cells (enc l) 115)) (hs:n*128<=l.length) (J:C≠A) (ah:V≠A) (a3:V≠C) (hN:N % 2=i) (ac:0<=N) (ay:0<=rb) (a5:rb<=1000) (a0:0<=rs):
  Calls prog 142 #[.pointer (some ⟨V,0,none⟩),.agg #[.int .u64 N,.int .i64 rb,.int .u64 rs]] w λe E=>e=.returned (.tuple #[])/\
   E.heap[A]?=some (qA8 κ n C (.slice none 0 0) (nx (nx g)) (nx p))/\E.heap[C]?=some (.cells (enc (qD0 l i (qB8 N rb rs))) 115)/\Kp [A,C] w E:=by
 have a4:=ζ hV;have hA:=ζ h;have a2:=ζ M;have HN:=zh hN;clear hN;go_enter func142,ntmps142;go_wp2_with fail;rw[kT5];obtain⟨a,ai,Z,F,O,ae,x,T,a8⟩:∃ a,a=(w.alloc (.cells #[.int .u64 N,ϊ rb,.int .u64 rs] 166)).alloc (.cells (enc qS3) 288)/\Kp [A,C] w a/\Ϙ a A (qA8 κ n C (.slice none 0 0) g p)/\Ϙ a C (.cells (enc l) 115)/\Ϙ a V (qE4 A n)/\
   Ϙ a w.heap.size (.cells #[.int .u64 N,ϊ rb,.int .u64 rs] 166)/\a.heap[w.heap.size+1]?=some (.cells (enc qS3) 288)/\a.heap.size=w.heap.size+2:=
  ⟨_,rfl,(kF.alloc _).alloc _,ν _ (ν _ h),ν _ (ν _ M),ν _ (ν _ hV),ν _ (υ _ _),by simpa using υ (w.alloc (.cells #[.int .u64 N,ϊ rb,.int .u64 rs] 166)) (.cells (enc qS3) 288),sM⟩
 rw[<-ai];clear ai;refine wp_region_any kR ?_;change wpAny _ _ _ _ _ _ _ (World.drew _);refine zu 0 (.slice (some ⟨w.heap.size+1,0,none⟩) 128 128) ?_;refine zQ 1 λK hK=>?_;refine qF3 rfl (qR4 (t:=166) rfl kR 3 kR w.heap.size rfl (show a.drew.heap[w.heap.size]?=_ from x) rfl) ?_;refine hK _ _ ?_;simp only[zZ];refine zQ 2 λK hK=>?_;go_simp;refine (xO4 N rb rs _ ac ay oM a0).mono ?_;rintro e w2 ⟨v2,rfl,ad,u⟩;obtain⟨g2,ao,a1,rfl,al,az,D⟩:=xK9 ad;have d:=Kp.of_below u lR;have G:=d.heap (k:=A) F sM;have P:=d.heap (k:=C) O sM;have af:=d.heap (k:=V) ae sM;have X:=d.heap (k:=w.heap.size) x sM;have v:=d.heap (k:=w.heap.size+1) T sM;have aa:=(Z.drew).tr d;have a6:w.heap.size+2<=w2.heap.size:=by have:=u.size;simp at this;omega
 clear u d F O ae x T Z ad;refine hK _ _ ?_
 try simp only[zZ]
 refine zQ 3 λK hK=>?_;refine qF3 rfl (jL4 rfl underlying118 Tryz.size5 (w.heap.size+1) 0 128 128 g2 0 32 ao 32 rfl rfl dC v al (by rw[qI7];decide) oM (by rw[D];exact (qM1 _).one)) ?_;rw[D,xF0];have ak:qS3.take 0++toB (qJ0 N rb rs)++qS3.drop (0+(toB (qJ0 N rb rs)).length)=qB8 N rb rs:=by
  rw[qR1,zS6];simp[qB8,qS3]
 rw[ak];obtain⟨c,aj,ab,H,Q,ag,m,j⟩:∃ c,c=w2.setRow (w.heap.size+1) (enc (qB8 N rb rs))/\Kp [A,C] w c/\Ϙ c A (qA8 κ n C (.slice none 0 0) g p)/\Ϙ c C (.cells (enc l) 115)/\Ϙ c V (qE4 A n)/\
   Ϙ c w.heap.size (.cells #[.int .u64 N,ϊ rb,.int .u64 rs] 166)/\c.heap[w.heap.size+1]?=some (.cells (enc (qB8 N rb rs)) 288):=
  ⟨_,rfl,aa.setRow (Or.inr oM) _,(setRow_other _ _ _ _ oM).trans G,(setRow_other _ _ _ _ oM).trans P,(setRow_other _ _ _ _ oM).trans af,(setRow_other _ _ _ _ oM).trans X,setRow_heap _ _ _ _ _ _ v⟩
 rw[<-aj];clear aj G P af X v aa al az D ak;refine hK _ _ ?_;refine wpAny_done kR ?_ _;simp only[zZ];go_wp2_with fail;have am:=qJ1 N rb rs;refine wp_region_held_drew (S:=λW=>Ϙ W w.heap.size (.cells #[.int .u64 N,ϊ rb,.int .u64 rs] 166)/\W.heap[w.heap.size+1]?=some (.cells (enc (qB8 N rb rs)) 288)) kR ⟨m,j⟩ (λ_=>?_);refine zV 0 (ϖ V) rfl (λW r=>rfl) ⟨m,j⟩ ?_;refine zV 1 (.agg #[.int .u64 N,ϊ rb,.int .u64 rs]) rfl (λW r=>qR4 (t:=166) rfl kR 3 kR w.heap.size rfl r.1 rfl) ⟨m,j⟩ ?_;refine zV 3 (.agg (enc (qB8 N rb rs))) rfl (λW r=>qR4 (t:=288) rfl kR 128 kR (w.heap.size+1) rfl r.2 (by rw[qI7,qJ1])) ⟨m,j⟩ ?_;refine zq 2 λK hK=>?_;go_simp;refine (zR6 N rb rs _ ac).mono ?_;rintro e s ⟨rfl,L⟩;rw[HN.out];have f:=Kp.of_below L lR;have I:=f.heap (k:=A) H sM;have R:=f.heap (k:=C) Q sM;have z:=f.heap (k:=V) ag sM;have y:=f.heap (k:=w.heap.size) m sM;have q:=f.heap (k:=w.heap.size+1) j sM;have o:=(ab.drew).tr f;clear L f H Q ag m j ab;refine hK.out _ _ ⟨y,q⟩ (λ_=>?_)
 try simp only[zZ]
 refine zq 4 λK hK=>?_;go_simp;refine (xO0 V A n C s.heap.size (.slice none 0 0) [] g p i (qB8 N rb rs) s z I (wN _ _ _ _) sM lR hi hn am ah).mono ?_;rintro e w5 ⟨rfl,v5,an,ap,b⟩;rw[nA] at an;have a7:w.heap.size+2<=s.heap.size:=by have:=ζ q;omega
 have ar:=b.oth _ _ _ _ R dC J;have ax:=b.oth _ _ _ _ z dC ah;have Y:=b.oth _ _ _ _ y dC oM;have U:=b.oth _ _ _ _ q dC oM;have av:Kp [A,C] w w5:=⟨b.os.trans o.os,b.tape.trans o.tape,b.output.trans o.output,lT o.size b.size,λk hk B=>(b.low k oM (by simp at B;exact B.1)).trans (o.block k hk B)⟩;clear b o I R z y q;refine hK.out _ _ ⟨Y,U⟩ (λ_=>?_);refine zd ?_
 try simp only[zZ]
 clear Y U;go_wp2_with fail;refine (zS7 V A n C s.heap.size v5 [(i,qB8 N rb rs)] (nx g) (nx p) l _ ax ap an (by simpa using⟨hi,am⟩) sM hn ar hs J).mono ?_;rintro e w6 ⟨rfl,aq,au,aw⟩;go_wp2
 go_end0
 exact⟨rfl,aq,au,av.tr aw⟩
end Go.Proofs.YtdohpenfkdckiaaGreatDoor
