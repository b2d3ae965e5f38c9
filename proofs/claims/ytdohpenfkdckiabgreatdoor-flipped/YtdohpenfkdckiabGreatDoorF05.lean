import Derived.Test.YtdohpenfkdckiabGreatDoorF03
import Derived.Test.YtdohpenfkdckiabGreatDoorF04
set_option linter.all false
set_option maxRecDepth 100000
set_option maxHeartbeats 20000000
namespace Go.Proofs.YtdohpenfkdckiabGreatDoor
open Go.Proofs.Tryz
open Go.RowKit
theorem jG2(n:Int)(h0:0≤n)(h1:n<2147483648)(w:World):Calls prog 25 #[.int .i64 n] w fun e w'=>(∃ k:Int,e=.returned (.int .i64 k)∧0≤k∧k<2147483648)∧w'=w:=by
 have e1:IntKind.i64.wrap (n*1103515245)=n*1103515245:=by rw[IntKind.wrap_i64];omega
 have e2:IntKind.i64.wrap (n*1103515245+12345)=n*1103515245+12345:=by rw[IntKind.wrap_i64];omega
 go_enter func25,ntmps25;go_wp2;go_ret;exact⟨⟨_,rfl,by omega,by omega⟩,rfl⟩
theorem jG5(k:Int)(h0:0≤k)(h1:k<2147483648)(w:World):Calls prog 63 #[.int .i64 k] w fun e w'=>(∃ s:ByteArray,e=.returned (.string s)∧s.size≤12)∧w'=w:=by
 go_enter func63,ntmps63;go_wp2;go_ret;refine⟨⟨_,rfl,?_⟩,rfl⟩;rw[ByteArray.size_extract];have:(k % 13).toNat≤12:=by omega
 omega
def lhl{X:Type}(l:Lnk X):HL:=⟨l.key,((l.ref.getD (0,0)).1:Int),(l.ref.getD (0,0)).2,none⟩
def qB3{X:Type}(f:Lnk X→List Nat→Lnk X × List (Nat × List UInt8) × List Nat):List (Lnk X)→List Nat→List (Lnk X) × List (Nat × List UInt8) × List Nat
 | [],fr=>([],[],fr)
 | l::ls,fr=>((f l fr).1::(qB3 f ls (f l fr).2.2).1,(f l fr).2.1++(qB3 f ls (f l fr).2.2).2.1,(qB3 f ls (f l fr).2.2).2.2)
def qA0:(n:Nat)→Lnk (Tn n)→List Nat→Lnk (Tn n) × List (Nat × List UInt8) × List Nat
 | 0,l,fr=>if l.ref.isSome then (l,[],fr) else (⟨l.key,some (fr.headD 0,fnv (qA1 0 (prs l.sub) [])),l.sub⟩,[(fr.headD 0,toB (qA1 0 (prs l.sub) []))],fr.tail)
 | n+1,l,fr=>if l.ref.isSome then (l,[],fr) else
   let r:=qB3 (qA0 n) (η l.sub) fr
   (⟨l.key,some (r.2.2.headD 0,fnv (qA1 ((n+1:Nat):Int) [] (r.1.map lhl))),r.1⟩,r.2.1++[(r.2.2.headD 0,toB (qA1 ((n+1:Nat):Int) [] (r.1.map lhl)))],r.2.2.tail)
theorem zW8{X:Type}(f:Lnk X→List Nat→Lnk X × List (Nat × List UInt8) × List Nat):∀ (a:List (Lnk X)) (l:Lnk X) (fr:List Nat),
  qB3 f (a++[l]) fr=((qB3 f a fr).1++[(f l (qB3 f a fr).2.2).1],(qB3 f a fr).2.1++(f l (qB3 f a fr).2.2).2.1,(f l (qB3 f a fr).2.2).2.2)
 | [],l,fr=>by simp[qB3]
 | x::a,l,fr=>by
  have h:=zW8 f a l (f x fr).2.2;simp only[List.cons_append,qB3,h,List.append_assoc]
theorem qP9{X:Type}(f:Lnk X→List Nat→Lnk X × List (Nat × List UInt8) × List Nat)(g:Lnk X→Nat):∀ (ls:List (Lnk X)) (fr:List Nat),(∀ l∈ls,∀ fr,(f l fr).2.2=fr.drop (g l))→(qB3 f ls fr).2.2=fr.drop (meas g ls)
 | [],fr,_=>by simp[qB3,qC9]
 | l::ls,fr,h=>by
  simp only[qB3];rw[qP9 f g ls _ (fun x hx=>h x (by simp[hx])),h l (by simp),List.drop_drop,qE0]
theorem qN9:∀ (n:Nat) (l:Lnk (Tn n)) (fr:List Nat),(qA0 n l fr).2.2=fr.drop (news n l)
 | 0,l,fr=>by
  simp only[qA0,news];split<;>simp
 | n+1,l,fr=>by
  simp only[qA0,news];split
  ·simp
  ·simp only;rw[qP9 (qA0 n) (news n) _ fr (fun l _ fr=>qN9 n l fr),←List.drop_one,List.drop_drop]
   congr 1
   exact Nat.add_comm _ _
structure Wx(base:Nat)(S:List Nat)(w w':World):Prop where
 os:w'.os=w.os
 tape:w'.tape=w.tape
 output:w'.output=w.output
 size:w.heap.size≤w'.heap.size
 low:∀ k,k<base→k ∉ S→w'.heap[k]?=w.heap[k]?
 oth:∀ (k:Nat) (c:Array Value) (t:TypeId) (fr:Nat × Nat),w.heap[k]?=some (.cells c t fr)→t≠89→k ∉ S→w'.heap[k]?=some (.cells c t fr)
theorem Wx.trans{base:Nat}{S:List Nat}{a b c:World}(h:Wx base S a b)(k:Wx base S b c):Wx base S a c:=
 ⟨k.os.trans h.os,k.tape.trans h.tape,k.output.trans h.output,Nat.le_trans h.size k.size,fun q h1 h2=>(k.low q h1 h2).trans (h.low q h1 h2),fun q c t fr e h1 h2=>k.oth q c t fr (h.oth q c t fr e h1 h2) h1 h2⟩
theorem Wx.ofKp{base:Nat}{S:List Nat}{a b:World}(h:Kp S a b)(hb:base≤a.heap.size):Wx base S a b:=
 ⟨h.os,h.tape,h.output,h.size,fun k h1 h2=>h.block k (by omega) h2,fun k c t fr e h1 h2=>h.heap e h2⟩
theorem Wx.of{base A:Nat}{S:List Nat}{a b:World}(h:Wr base A a b)(hA:A∈S):Wx base S a b:=
 ⟨h.os,h.tape,h.output,h.size,fun k h1 h2=>h.low k h1 (fun e=>h2 (e ▸ hA)),fun k c t fr e h1 h2=>h.oth k c t fr e h1 (fun e=>h2 (e ▸ hA))⟩
theorem Wx.tail{base:Nat}{a w w':World}{S T:List Nat}(h:Wx base S a w)(hK:Kp T w w')(hT:∀ k∈T,a.heap.size≤k)(hb:base≤a.heap.size):Wx base S a w':=
 ⟨hK.os.trans h.os,hK.tape.trans h.tape,hK.output.trans h.output,Nat.le_trans h.size hK.size,fun k h1 h2=>(hK.block k (by have:=h.size;omega) (fun hm=>by have:=hT k hm;omega)).trans (h.low k h1 h2),fun k c t fr e h1 h2=>hK.heap (h.oth k c t fr e h1 h2) (fun hm=>by have:=hT k hm;have:=ζ e;omega)⟩
def qG8(fr:List Nat):List Value:=fr.map (fun (b:Nat)=>Value.int .i64 (b:Int))
theorem jK3(F b:Nat)(fr:List Nat)(v:Value)(w:World)(hF:w.heap[F]?=some (.cells #[v] 22))(hv:Slc w 3 1 v (b::fr).length (qG8 (b::fr)))(hl:fr.length≤100000):
  Calls prog 107 #[.pointer (some ⟨F,0,none⟩)] w fun e w'=>e=.returned (.int .i64 b)∧∃ v',w'.heap[F]?=some (.cells #[v'] 22)∧Slc w' 3 1 v' fr.length (qG8 fr)∧Kp [F] w w':=by
 rcases hv.val with⟨h0,_⟩|⟨g,off,cap,cur,f',rfl,h1,h2,h3,h4⟩
 ·simp at h0
 have c0:=ξ hF 0;simp only[zG,zH,zI] at c0;have f0:=ρ hF 0;have hFs:=ζ hF;have b0:w.cell? ⟨g,off,none⟩=some (.int .i64 (b:Int)):=by
  rw[ξ h3];exact h4 0 _ (by simp[qG8])
 have hgF:g≠F:=by intro e;subst e;rw[hF] at h3;simp at h3
 obtain⟨m,hm⟩:∃ m,m=(b::fr).length:=⟨_,rfl⟩;rw[←hm] at h2 c0;have hm1:(0:Int)<(m:Int):=by omega
 have hm2:¬(m:Int)<1:=by omega
 have hm3:(1:Int)≤(m:Int):=by omega
 have HM:Hid (m=fr.length+1):=by show _=_;rw[hm];simp
 have HF:Hid (w.heap[F]?=some (.cells #[.slice (some ⟨g,off,none⟩) m cap] 22)):=by rw[hm];exact hF
 have HG:Hid (w.heap[g]?=some (.cells cur 3 f')∧∀ j u,(qG8 (b::fr))[j]?=some u→cur[off+j]?=some u):=⟨h3,h4⟩;have hgl:g ∉ [F]:=by simpa using hgF
 have HT:Hid (∀ o:Nat,(o=off+1∨fr=[])→∀ w',Kp [F] w w'→Slc w' 3 1 (.slice (some ⟨g,o,none⟩) (m-1) (cap-1)) fr.length (qG8 fr)):=by
  intro o ho w' hK;have e1:m-1=fr.length:=by have:=HM.out;omega
  rw[e1];refine⟨by simp[qG8],?_⟩
  cases fr with
  | nil=>exact Or.inl ⟨rfl,_,_,rfl,by simp⟩
  | cons x fr=>
   rcases ho with rfl|h
   ·refine Or.inr ⟨g,off+1,cap-1,cur,f',rfl,by simp,by have:=HM.out;simp at this ⊢;omega,hK.heap HG.out.1 hgl,fun j u hu=>?_⟩;have h:=HG.out.2 (j+1) u (by simpa [qG8] using hu);rw[show off+1+j=off+(j+1) from by omega];exact h
   ·cases h
 clear hF hv hm h3 h4;go_enter func107,ntmps107;go_wp2
 ·go_ret;have hK:Kp [F] w (w.setCell ⟨F,0,none⟩ (.slice (some ⟨g,off,none⟩) (m-1) 0)):=(Kp.refl _ _).sc _;have hc:cap=1:=by first | assumption | omega
  have h:=HT.out off (Or.inr (List.eq_nil_of_length_eq_zero (by have:=HM.out;omega))) _ hK;rw[hc] at h;exact⟨rfl,_,ω HF.out 0 _,h,hK⟩
 ·go_ret;have hK:Kp [F] w (w.setCell ⟨F,0,none⟩ (.slice (some ⟨g,off+1,none⟩) (m-1) (cap-1))):=(Kp.refl _ _).sc _;exact⟨rfl,_,ω HF.out 0 _,HT.out (off+1) (Or.inl rfl) _ hK,hK⟩
variable {κ:Nat}
theorem qW4(w:World)(a b c:Obj):∃ w0,w0=((w.alloc a).alloc b).alloc c∧w0.heap[w.heap.size]?=some a∧w0.heap[w.heap.size+1]?=some b∧w0.heap[w.heap.size+1+1]?=some c∧Kp [] w w0∧w0.heap.size=w.heap.size+3:=
 ⟨_,rfl,θ _ (θ _ (μ _ _)),θ _ (by simpa using μ (w.alloc a) b),by simpa using μ ((w.alloc a).alloc b) c,(((Kp.refl _ _).alloc _).alloc _).alloc _,by simp⟩
theorem zR3(args:Array Value)(W:World):Sem.run prog (callFunc 107 args) W=.ok (.enter 107 args) W:=by
 simp[go_sem,func107]
structure Ly(κ:Nat)(wn:Int)(V A N C base F:Nat)(ws:List (Nat × List UInt8))(fr:List Nat)(w:World):Prop where
 hV:w.heap[V]?=some (qB8 A N)
 hA:∃ v calls,w.heap[A]?=some (χ κ N C v calls (nk wn ws.length))∧w.ownsRow base 89 129 v ws.length (ws.flatMap wcs)
 hF:∃ vf,w.heap[F]?=some (.cells #[vf] 22)∧Slc w 3 1 vf fr.length (qG8 fr)
 low:base≤w.heap.size
theorem Ly.keep{wn:Int}{V A N C base F:Nat}{ws:List (Nat × List UInt8)}{fr:List Nat}{w w':World}(h:Ly κ wn V A N C base F ws fr w)(hK:Kp [] w w'):Ly κ wn V A N C base F ws fr w':=by
 obtain⟨v,calls,h1,h2⟩:=h.hA;obtain⟨vf,h3,h4⟩:=h.hF;exact⟨hK.hp h.hV,⟨v,calls,hK.hp h1,qF8 h2 hK (Apt.nil _ _)⟩,⟨vf,hK.hp h3,h4.keep0 hK⟩,Nat.le_trans h.low hK.size⟩
theorem Ly.turn{wn:Int}{V A N C base F:Nat}{ws:List (Nat × List UInt8)}{fr:List Nat}{w w':World}{S:List Nat}(h:Ly κ wn V A N C base F ws fr w)(hK:Kp S w w')(hS:Apt w S [186,72,89,22,3]):Ly κ wn V A N C base F ws fr w':=by
 obtain⟨v,calls,h1,h2⟩:=h.hA;obtain⟨vf,h3,h4⟩:=h.hF;exact⟨hK.heap h.hV (fun hm=>hS _ hm _ _ _ h.hV (by decide)),⟨v,calls,hK.heap h1 (fun hm=>hS _ hm _ _ _ h1 (by decide)),qF8 h2 hK (hS.sub (by decide))⟩,⟨vf,hK.heap h3 (fun hm=>hS _ hm _ _ _ h3 (by decide)),h4.keep hK (hS.sub (by decide))⟩,Nat.le_trans h.low hK.size⟩
theorem Ly.apt{wn:Int}{V A N C base F:Nat}{ws:List (Nat × List UInt8)}{fr:List Nat}{w:World}(h:Ly κ wn V A N C base F ws fr w):Apt w [A,F] qF9:=fun q hq c t f e=>by
 obtain⟨v,calls,h1,h2⟩:=h.hA;obtain⟨vf,h3,h4⟩:=h.hF;rcases List.mem_cons.1 hq with rfl|hq
 ·rw[h1] at e;cases e;decide
 ·rw[List.mem_singleton.1 hq,h3] at e;cases e;decide
theorem Slc.wx{base:Nat}{S:List Nat}{w w':World}{T:TypeId}{sz:Nat}{v:Value}{n:Nat}{cs:List Value}(h:Slc w T sz v n cs)(hW:Wx base S w w')(hT:T≠89)(hS:Apt w S [T]):Slc w' T sz v n cs:=by
 refine⟨h.len,?_⟩;rcases h.val with h|⟨g,off,cap,cur,fr,h1,h2,h3,h4,h5⟩
 ·exact .inl h
 ·exact .inr ⟨g,off,cap,cur,fr,h1,h2,h3,hW.oth _ _ _ _ h4 hT (fun hm=>hS g hm _ _ _ h4 (by simp)),h5⟩
theorem RN.wx{O:qF0}{base:Nat}{S:List Nat}{w w':World}(hW:Wx base S w w')(hS:Apt w S qF9):∀ (n:Nat) (q:Nat) (t:Tn n),RN O n w q t→RN O n w' q t
 | 0,q,t,h=>by
  obtain⟨vp,h1,h2⟩:=h;exact⟨vp,hW.oth _ _ _ _ h1 (by decide) (fun hm=>hS q hm _ _ _ h1 (by decide)),h2.wx hW (by decide) (hS.sub (by decide))⟩
 | n+1,q,t,h=>by
  obtain⟨vl,h1,hs,h2,h3⟩:=h;exact⟨vl,hW.oth _ _ _ _ h1 (by decide) (fun hm=>hS q hm _ _ _ h1 (by decide)),hs,h2.wx hW (by decide) (hS.sub (by decide)),h3.mono fun x y hr=>hr.mono (fun q hq=>RN.wx hW hS n q _ hq) (fun _ _ h=>h)⟩
theorem Ly.next{wn:Int}{V A N C base F b:Nat}{ws:List (Nat × List UInt8)}{fr:List Nat}{w:World}(h:Ly κ wn V A N C base F ws (b::fr) w)(hl:fr.length≤100000):
  Calls prog 107 #[.pointer (some ⟨F,0,none⟩)] w fun e w'=>e=.returned (.int .i64 b)∧Ly κ wn V A N C base F ws fr w'∧Wx base [A,F] w w':=by
 obtain⟨v,calls,h1,h2⟩:=h.hA;obtain⟨vf,h3,h4⟩:=h.hF;refine (jK3 F b fr vf w h3 h4 hl).mono ?_;rintro e w' ⟨rfl,v',h5,h6,hK⟩;have ap:Apt w [F] [186,72,89]:=fun q hq c t fr e=>by
  rw[List.mem_singleton.1 hq,h3] at e;cases e;decide
 exact⟨rfl,⟨hK.heap h.hV (fun hm=>ap _ hm _ _ _ h.hV (by decide)),⟨v,calls,hK.heap h1 (fun hm=>ap _ hm _ _ _ h1 (by decide)),qF8 h2 hK (ap.sub (by decide))⟩,⟨v',h5,h6⟩,Nat.le_trans h.low hK.size⟩,Wx.ofKp (hK.mono (by simp)) h.low⟩
theorem Ly.lay{wn:Int}{V A N C base F i:Nat}{ws:List (Nat × List UInt8)}{fr:List Nat}{w:World}(h:Ly κ wn V A N C base F ws fr w)(hVA:V≠A)(hwl:ws.length≤100000)(hi:i<N)(hN:N≤1000)
  (q:Nat) (lv:Int) (vp vl:Value) (ps:List KV) (hs:List HL) (hq:w.heap[q]?=some (υ lv vp vl)) (hl0:0≤lv) (hl1:lv<256)
  (hsp:Slc w 158 2 vp ps.length (qA9 ps)) (hsl:Slc w 81 4 vl hs.length (qA5 hs)) (hm:2+meas ν ps+meas ψ hs≤128) (hc:ps.length+hs.length≤255)
  (hzp:∀ p∈ps,qC3 p) (hzl:∀ p∈hs,p.key.size≤8∧0≤p.b∧p.b≤1000000∧0≤p.s):
  Calls prog 149 #[.pointer (some ⟨q,0,none⟩),.pointer (some ⟨V,0,none⟩),.int .i64 i] w fun e w'=>e=.returned (.agg #[.int .i64 i,.int .u64 (fnv (qA1 lv ps hs))])∧
   Ly κ wn V A N C base F (ws++[(i,toB (qA1 lv ps hs))]) fr w'∧Wx base [A,F] w w':=by
 obtain⟨v,calls,h1,h2⟩:=h.hA;obtain⟨vf,h3,h4⟩:=h.hF;refine (jK4 V A N C base v ws calls (nk wn ws.length) i q lv vp vl ps hs w hq hl0 hl1 hsp hsl hm hc hzp hzl h.hV h1 h2 hwl h.low hi hN hVA).mono ?_;rintro e w' ⟨rfl,v',h5,h6,hW⟩;have hFA:F≠A:=by intro e;subst e;rw[h3] at h1;simp[χ] at h1
 refine⟨rfl,⟨hW.oth _ _ _ _ h.hV (by decide) hVA,⟨v',_,by rw[List.length_append];exact h6,h5⟩,⟨vf,hW.oth _ _ _ _ h3 (by decide) hFA,h4.len,?_⟩,Nat.le_trans h.low hW.size⟩,Wx.of hW (by simp)⟩;rcases h4.val with h7|⟨g,off,cap,cur,f',k1,k2,k3,k4,k5⟩
 ·exact Or.inl h7
 ·exact Or.inr ⟨g,off,cap,cur,f',k1,k2,k3,hW.oth _ _ _ _ k4 (by decide) (by intro e;subst e;rw[k4] at h1;simp[χ] at h1),k5⟩
variable {κ:Nat}
theorem zJ1(V:Nat)(r h:HL)(nf:Value)(w:World)(hp:h.p=none):
  Calls prog 106 #[φ V r,qC5 h,nf] w fun e w'=>e=.returned (qC5 h)∧Kp [] w w':=by
 have hptr:h.ptr=none:=by simp[HL.ptr,hp]
 rw[φ,qC5,hptr];go_enter func106,ntmps106;go_wp2;obtain⟨w0,hw0,_,_,hR0,hK0,_⟩:=qW4 w (.cells #[.pointer (some ⟨V,0,none⟩),.string r.key,.int .i64 r.b,.int .u64 r.s,.pointer r.ptr] 83) (.cells #[.string h.key,.int .i64 h.b,.int .u64 h.s,.pointer none] 81) (.cells #[.string h.key,.int .i64 h.b,.int .u64 h.s,.pointer none] 81);rw[←hw0];exact bodyPost_ret (results_cell_row results106 _ _ (w.heap.size+1+1) 81 #[.string h.key,.int .i64 h.b,.int .u64 h.s,.pointer none] (0,0) _ rfl hR0 underlying81 rfl (by kernel_rfl)) rfl ⟨rfl,hK0⟩
theorem jH2(wn:Int)(V A N C base F:Nat)(ws:List (Nat × List UInt8))(fr:List Nat)(b:Nat)(r h:HL)(q:Nat)(O:qF0)(L:Lnk (Tn 0))(w:World)(hy:Ly κ wn V A N C base F ws (b::fr) w)(hVA:V≠A)(hNN:N≤1000)(hb:b<N)(hwl:ws.length≤100000)(hfl:fr.length≤100000)(hp:h.p=some q)(hq:RN O 0 w q L.sub)
  (hz:∀ p∈prs L.sub,qC3 p) (hm:2+meas ν (prs L.sub)≤128) (hn:(prs L.sub).length≤126):
  Calls prog 106 #[φ V r,qC5 h,.func (.func 107) #[] #[.pointer (some ⟨F,0,none⟩)]] w fun e w'=>e=.returned (qC5 ⟨h.key,(b:Int),fnv (qA1 0 (prs L.sub) []),none⟩)∧
   Ly κ wn V A N C base F (ws++[(b,toB (qA1 0 (prs L.sub) []))]) fr w'∧Wx base [A,F] w w':=by
 obtain⟨vp,hq,hsp⟩:=hq;obtain⟨pb,pc,rfl⟩:=qJ8 hsp;obtain⟨pn,hpn⟩:∃ pn,pn=(prs L.sub).length:=⟨_,rfl⟩;obtain⟨lv,hlv⟩:∃ lv:Int,lv=0:=⟨_,rfl⟩;obtain⟨vl,hvl⟩:∃ vl,vl=Value.slice none 0 0:=⟨_,rfl⟩;rw[←hlv,←hvl,←hpn] at hq;rw[←hpn] at hsp;have HPN:Hid (pn=(prs L.sub).length∧lv=0∧vl=.slice none 0 0):=⟨hpn,hlv,hvl⟩;have HSP:=zh hsp;clear hpn hlv hvl hsp;have HQ:=zh hq;have hqs:=ζ hq;have HY:=zh hy;have hptr:h.ptr=some ⟨q,0,none⟩:=by simp[HL.ptr,hp]
 rw[φ,qC5,hptr];clear hq hy hp hptr;go_enter func106,ntmps106;go_wp2_with fail;obtain⟨w0,hw0,hT0,hL0,hR0,hK0,hs0⟩:=qW4 w (.cells #[.pointer (some ⟨V,0,none⟩),.string r.key,.int .i64 r.b,.int .u64 r.s,.pointer r.ptr] 83) (.cells #[.string h.key,.int .i64 h.b,.int .u64 h.s,.pointer (some ⟨q,0,none⟩)] 81) (.cells qJ5 81);unfold qJ5 at hR0 hw0;rw[←hw0];clear hw0;have hS0:w0.drew.heap[w.heap.size+1]?=some (.cells #[.string h.key,.int .i64 h.b,.int .u64 h.s,.pointer (some ⟨q,0,none⟩)] 81)∧w0.drew.heap[q]?=some (υ lv (.slice pb pn pc) vl):=⟨hL0,hK0.hp HQ.out⟩;refine wp_region_held_drew (S:=fun W=>W.heap[w.heap.size+1]?=some (.cells #[.string h.key,.int .i64 h.b,.int .u64 h.s,.pointer (some ⟨q,0,none⟩)] 81)∧W.heap[q]?=some (υ lv (.slice pb pn pc) vl)) (by kernel_rfl) hS0 (fun _=>?_);refine zU 0 (.pointer (some ⟨w.heap.size+1,3,none⟩)) hS0 ?_;refine zV 1 (.pointer (some ⟨q,0,none⟩)) rfl (fun W hS=>by have a:=ξ hS.1 3;simp only[zG,zH,zI] at a;clear hS;go_simp) hS0 ?_;refine zV 2 (.pointer (some ⟨q,0,none⟩)) rfl (fun W hS=>by have c:=ζ hS.2;clear hS;go_simp) hS0 ?_;refine zP 3 q 0 hS0 ?_;refine zV 4 (.int .i64 lv) rfl (fun W hS=>by have a:=ξ hS.2 0;simp only[υ,zG,zH,zI] at a;clear hS;go_simp) hS0 ?_;refine zU 5 (.pointer (some ⟨w.heap.size+1,3,none⟩)) hS0 ?_;refine zV 6 (.pointer (some ⟨q,0,none⟩)) rfl (fun W hS=>by have a:=ξ hS.1 3;simp only[zG,zH,zI] at a;clear hS;go_simp) hS0 ?_;refine zV 7 (.pointer (some ⟨q,0,none⟩)) rfl (fun W hS=>by have c:=ζ hS.2;clear hS;go_simp) hS0 ?_;refine zP 8 q 1 hS0 ?_;refine zV 9 (.slice pb pn pc) rfl (fun W hS=>by have a:=ξ hS.2 1;simp only[υ,zG,zH,zI] at a;clear hS;go_simp) hS0 ?_;refine zU 10 (.agg #[.int .i64 lv,.slice pb pn pc,.slice none 0 0]) hS0 ?_;refine zq 11 fun K hK=>?_;go_simp;obtain⟨w1,hw1,hN1,hK1⟩:∃ w1,w1=(w0.alloc (.cells #[.int .i64 0,.slice none 0 0,.slice none 0 0] 152)).drew∧w1.heap[w.heap.size+3]?=some (.cells #[.int .i64 0,.slice none 0 0,.slice none 0 0] 152)∧Kp [] w0 w1:=⟨_,rfl,by rw[←hs0];exact μ w0 _,((Kp.refl _ _).alloc _).drew⟩;rw[←hw1];have hs1:w1.heap.size=w.heap.size+4:=by rw[hw1];simp[hs0]
 clear hw1;refine hK.out _ _ ⟨hK1.hp hS0.1,hK1.hp hS0.2⟩ (fun _=>?_);clear hK K
 try simp only[zZ]
 refine zq 12 fun K hK=>?_;have z0:=ξ hN1;have f0:=ρ hN1;have hN1s:=ζ hN1;have HN1:=zh hN1;clear hN1;go_simp;obtain⟨w2,hw2,hN2,hK2⟩:∃ w2,w2=((w1.setCell ⟨w.heap.size+3,0,none⟩ (.int .i64 lv)).setCell ⟨w.heap.size+3,1,none⟩ (.slice pb pn pc)).setCell ⟨w.heap.size+3,2,none⟩ (.slice none 0 0)∧w2.heap[w.heap.size+3]?=some (υ lv (.slice pb pn pc) (.slice none 0 0))∧Kp [w.heap.size+3] w1 w2:=
  ⟨_,rfl,ω (ω (ω HN1.out 0 _) 1 _) 2 _,(((Kp.refl _ _).sc _).sc _).sc _⟩
 rw[←hw2];clear hw2 z0 f0;have hKw2:Kp [] w w2:=(hK0.tr hK1).tr hK2;have hK02:Kp [] w0 w2:=hK1.trans hK2 (by simp;omega);have hS2:=And.intro (hK02.hp hS0.1) (hK02.hp hS0.2);refine hK.out _ _ hS2 (fun _=>?_);clear hK K;refine zd ?_
 try simp only[zZ]
 have hs2:w.heap.size+4≤w2.heap.size:=by have:=hK2.size;omega
 have hT2:=hK02.hp hT0;have hR2:=hK02.hp hR0;have l3:=ξ hS2.1 3;have q2:=ξ hS2.2 2;simp only[υ,zG,zH,zI] at l3 q2;have HL2:=zh hS2.1;have HT2:=zh hT2;have HR2:=zh hR2;have HN2:=zh hN2;have HK2:=zh hKw2;have hqs2:=ζ hS2.2;clear hS0 hS2 hT2 hR2 hN2 hKw2 hK02 hK2 hK1 hK0 hT0 hL0 hR0 HN1 hN1s hs1 hs0;rw[HPN.out.2.2] at q2;have hAs:A<w.heap.size:=by obtain⟨v,c1,h1,_⟩:=HY.out.hA;exact ζ h1
 have hFs:F<w.heap.size:=by obtain⟨vf,h1,_⟩:=HY.out.hF;exact ζ h1
 go_wp2_with fail;refine wp_loop_rounds 1 ?_;rw[rounds_succ];go_wp2_with fail;have HY2:Hid (Ly κ wn V A N C base F ws (b::fr) w2):=HY.out.keep HK2.out;have hpsl:=HPN.out.1;have HPSL:=zh hpsl;clear hpsl;have hSd:w2.drew.heap[w.heap.size+1]?=some (.cells #[.string h.key,.int .i64 h.b,.int .u64 h.s,.pointer (some ⟨q,0,none⟩)] 81)∧w2.drew.heap[w.heap.size]?=some (.cells #[.pointer (some ⟨V,0,none⟩),.string r.key,.int .i64 r.b,.int .u64 r.s,.pointer r.ptr] 83):=⟨HL2.out,HT2.out⟩;refine wp_region_held_drew (S:=fun W=>W.heap[w.heap.size+1]?=some (.cells #[.string h.key,.int .i64 h.b,.int .u64 h.s,.pointer (some ⟨q,0,none⟩)] 81)∧W.heap[w.heap.size]?=some (.cells #[.pointer (some ⟨V,0,none⟩),.string r.key,.int .i64 r.b,.int .u64 r.s,.pointer r.ptr] 83)) (by kernel_rfl) hSd (fun _=>?_);refine zU 0 (.pointer (some ⟨w.heap.size+1,0,none⟩)) hSd ?_;refine zV 1 (.string h.key) rfl (fun W hS=>by have a:=ξ hS.1 0;simp only[zG,zH,zI] at a;clear hS;go_simp) hSd ?_;refine zP 2 w.heap.size 0 hSd ?_;refine zV 3 (.pointer (some ⟨V,0,none⟩)) rfl (fun W hS=>by have a:=ξ hS.2 0;simp only[zG,zH,zI] at a;clear hS;go_simp) hSd ?_;refine zU 4 (.func (.func 107) #[] #[.pointer (some ⟨F,0,none⟩)]) hSd ?_;refine zq 5 fun K hK=>?_;have hcf:=zR3;go_simp;refine ((HY2.out.keep ((Kp.refl _ w2).drew)).next hfl).mono ?_;rintro e w3 ⟨rfl,hy3,hW3⟩;have hS3:=And.intro (hW3.oth _ _ _ _ hSd.1 (by decide) (by simp;omega)) (hW3.oth _ _ _ _ hSd.2 (by decide) (by simp;omega));have hR3:=hW3.oth _ _ _ _ HR2.out (by decide) (by simp;omega);have hq3:=hW3.oth _ _ _ _ HN2.out (by decide) (by simp;omega);have hs3:=hW3.size;have hsp3:=((HSP.out.keep0 HK2.out).keep0 ((Kp.refl _ w2).drew)).wx hW3 (by decide) ((HY2.out.keep ((Kp.refl _ w2).drew)).apt.sub (by decide));refine hK.out _ _ hS3 (fun _=>?_);clear hK K hcf
 try simp only[zZ]
 refine zq 6 fun K hK=>?_;go_simp;refine (hy3.lay hVA hwl hb hNN (w.heap.size+3) lv (.slice pb pn pc) (.slice none 0 0) (prs L.sub) [] hq3 (by have:=HPN.out;omega) (by have:=HPN.out;omega) (by have h:=hsp3;rw[HPSL.out] at h ⊢;exact h) ⟨rfl,Or.inl ⟨rfl,none,0,rfl,fun _=>rfl⟩⟩ (by simpa [qC9] using hm) (by simp;omega) hz (by simp)).mono ?_;rintro e w4 ⟨rfl,hy4,hW4⟩;have hS4:=And.intro (hW4.oth _ _ _ _ hS3.1 (by decide) (by simp;omega)) (hW4.oth _ _ _ _ hS3.2 (by decide) (by simp;omega));have hR4:=hW4.oth _ _ _ _ hR3 (by decide) (by simp;omega);refine hK.out _ _ hS4 (fun _=>?_);clear hK K
 try simp only[zZ]
 refine zU 7 (.agg #[.string h.key,.int .i64 b,.int .u64 (fnv (qA1 lv (prs L.sub) [])),.pointer none]) hS4 ?_;refine zq 8 fun K hK=>?_;have z0:=ξ hR4;have f0:=ρ hR4;have hR4s:=ζ hR4;have hls:=qK6 (.string h.key) (.int .i64 (b:Int)) (.int .u64 (fnv (qA1 lv (prs L.sub) []))) (.pointer none) hR4;have HR4:=zh hR4;clear hR4;go_simp;obtain⟨w5,hw5,hR5,hK5⟩:∃ w5,w5=(((w4.setCell ⟨w.heap.size+1+1,0,none⟩ (.string h.key)).setCell ⟨w.heap.size+1+1,1,none⟩ (.int .i64 (b:Int))).setCell ⟨w.heap.size+1+1,2,none⟩ (.int .u64 (fnv (qA1 lv (prs L.sub) [])))).setCell ⟨w.heap.size+1+1,3,none⟩ (.pointer none)∧w5.heap[w.heap.size+1+1]?=some (.cells #[.string h.key,.int .i64 (b:Int),.int .u64 (fnv (qA1 lv (prs L.sub) [])),.pointer none] 81)∧Kp [w.heap.size+1+1] w4 w5:=⟨_,rfl,hls.1,hls.2⟩;rw[←hw5];clear hw5 hls z0 f0;refine hK.out _ _ ⟨hK5.hp hS4.1,hK5.ho hS4.2⟩ (fun _=>?_);clear hK K;refine zd ?_
 try simp only[zZ]
 have hap:Apt w4 [w.heap.size+1+1] [186,72,89,22,3]:=fun q hq c t fr e=>by rw[List.mem_singleton.1 hq,HR4.out] at e;cases e;decide
 have HY5:Hid (Ly κ wn V A N C base F (ws++[(b,toB (qA1 lv (prs L.sub) []))]) fr w5):=hy4.turn hK5 hap;have HW5:Hid (Wx base [A,F] w w5):=((Wx.ofKp (HK2.out.mono (by simp)) HY.out.low).trans (((Wx.ofKp (Kp.mono (S:=[]) ((Kp.refl _ w2).drew) (by simp)) HY2.out.low).trans hW3).trans hW4)).tail hK5 (by simp;omega) HY.out.low;have HR5:=zh hR5;clear hSd hS3 hS4 hR3 hq3 hy3 hW3 hy4 hW4 hR5 hK5 hap HR4 hR4s;go_wp2_with fail;exact bodyPost_ret (results_cell_row results106 _ _ (w.heap.size+1+1) 81 #[.string h.key,.int .i64 (b:Int),.int .u64 (fnv (qA1 lv (prs L.sub) [])),.pointer none] (0,0) _ rfl HR5.out underlying81 rfl (by kernel_rfl)) rfl ⟨by simp only[qC5,HL.ptr,HPN.out.2.1,Option.map_none],by have h:=HY5.out;rw[HPN.out.2.1] at h;exact h,HW5.out⟩
variable {κ:Nat}
def OkL:(n:Nat)→Lnk (Tn n)→Prop
 | 0,l=>l.key.size≤8∧(l.ref=none→(∀ p∈prs l.sub,qC3 p)∧2+meas ν (prs l.sub)≤128∧(prs l.sub).length≤126)
 | n+1,l=>l.key.size≤8∧(l.ref=none→n+1<256∧(∀ m∈η l.sub,OkL n m)∧2+meas qA3 (η l.sub)≤128∧(η l.sub).length≤126)
def qQ2(F:Nat):Value:=.func (.func 107) #[] #[.pointer (some ⟨F,0,none⟩)]
def qW3(κ:Nat)(wn:Int)(V A N C base F:Nat)(O:qF0)(n:Nat):Prop:=∀ (h r:HL) (L:Lnk (Tn n)) (fr:List Nat) (ws:List (Nat × List UInt8)) (w:World),Ly κ wn V A N C base F ws fr w→RL O n w h L→OkL n L→news n L≤fr.length→(∀ b∈fr,b<N)→ws.length+fr.length≤100000→
 Calls prog 106 #[φ V r,qC5 h,qQ2 F] w fun e w'=>e=.returned (qC5 (lhl (qA0 n L fr).1))∧Ly κ wn V A N C base F (ws++(qA0 n L fr).2.1) (qA0 n L fr).2.2 w'∧Wx base [A,F] w w'
theorem zK4{X:Type}{N:Nat→X→Prop}{O:Nat→Int→X→Prop}{h:HL}{l:Lnk X}(hr:RLof N O h l)(hl:l.ref.isSome):h.p=none∧h=lhl l:=by
 obtain⟨h1,h2⟩:=hr
 cases hx:l.ref with
 | none=>rw[hx] at hl;cases hl
 | some x=>
  rw[hx] at h2;obtain⟨e1,e2,e3,_⟩:=h2;refine⟨e3,?_⟩;cases h;simp only at h1 e1 e2 e3;subst h1 e1 e2 e3;simp[lhl,hx]
theorem zK1{X:Type}{N:Nat→X→Prop}{O:Nat→Int→X→Prop}{h:HL}{l:Lnk X}(hr:RLof N O h l)(hl:l.ref=none):h.key=l.key∧∃ q,h.p=some q∧N q l.sub:=by
 obtain⟨h1,h2⟩:=hr;rw[hl] at h2;obtain⟨_,_,q,e1,e2⟩:=h2;exact⟨h1,q,e1,e2⟩
theorem jH5(wn:Int)(V A N C base F:Nat)(O:qF0)(hVA:V≠A)(hN:N≤1000):qW3 κ wn V A N C base F O 0:=by
 intro h r L fr ws w hy hr ho hn hf hl
 cases hx:L.ref with
 | some x=>
  have hs:L.ref.isSome:=by rw[hx];rfl
  obtain⟨hp,he⟩:=zK4 hr hs;have e:qA0 0 L fr=(L,[],fr):=by simp only[qA0,if_pos hs]
  rw[e];refine (zJ1 V r h (qQ2 F) w hp).mono ?_;rintro e w' ⟨rfl,hK⟩;exact⟨by rw[←he],by simpa using hy.keep hK,Wx.ofKp (hK.mono (by simp)) hy.low⟩
 | none=>
  obtain⟨hk,q,hp,hq⟩:=zK1 hr hx;have hns:¬L.ref.isSome=true:=by rw[hx];simp
  have h1:news 0 L=1:=by simp only[news,if_neg hns]
  cases fr with
  | nil=>rw[h1] at hn;simp at hn
  | cons b fr=>
   obtain⟨z1,z2,z3⟩:=ho.2 hx;have e:qA0 0 L (b::fr)=(⟨L.key,some (b,fnv (qA1 0 (prs L.sub) [])),L.sub⟩,[(b,toB (qA1 0 (prs L.sub) []))],fr):=by simp only[qA0,if_neg hns,List.headD_cons,List.tail_cons]
   rw[e];refine (jH2 wn V A N C base F ws fr b r h q O L w hy hVA hN (hf b (by simp)) (by omega) (by simp at hl;omega) hp hq z1 z2 z3).mono ?_;rintro e w' ⟨rfl,h2,h3⟩;exact⟨by simp only[lhl,hk,Option.getD_some],h2,h3⟩
theorem zK8{base base':Nat}{S:List Nat}{w w':World}{e:TypeId}{sz:Nat}{v:Value}{n:Nat}{xs:List Value}(h:w.ownsRow base' e sz v n xs)(hW:Wx base S w w')(he:e≠89)(hS:Apt w S [e]):w'.ownsRow base' e sz v n xs:=by
 refine⟨h.1,?_⟩;rcases h.2 with h1|⟨g,cap,cur,h1,h2,h3,h4⟩
 ·exact Or.inl h1
 ·exact Or.inr ⟨g,cap,cur,h1,h2,hW.oth _ _ _ _ h3 he (fun hm=>hS g hm _ _ _ h3 (by simp)),h4⟩
theorem zK5{w:World}{base:Nat}{e:TypeId}{sz:Nat}{v:Value}{n:Nat}{xs:List Value}{Ts:List TypeId}(h:w.ownsRow base e sz v n xs)(hT:e ∉ Ts):Apt w v.ownBlock.toList Ts:=fun q hq c t fr e'=>by
 rcases h.2 with⟨rfl,_⟩|⟨g,cap,cur,rfl,_,h3,_⟩
 ·simp[Value.ownBlock] at hq
 ·simp only[Value.ownBlock,Option.toList_some,List.mem_singleton] at hq;rw[hq,h3] at e';cases e';exact hT
theorem qQ8{w:World}{base:Nat}{e:TypeId}{sz:Nat}{v:Value}{n:Nat}{xs:List Value}(h:w.ownsRow base e sz v n xs):∀ k,v.ownBlock=some k→base≤k∧k<w.heap.size:=fun k hk=>by
 refine⟨qI3 h k hk,?_⟩;rcases h.2 with⟨rfl,_⟩|⟨g,cap,cur,rfl,_,h3,_⟩
 ·simp[Value.ownBlock] at hk
 ·simp only[Value.ownBlock,Option.some.injEq] at hk;rw[←hk];exact ζ h3
theorem zD0{X:Type}(f:Lnk X→List Nat→Lnk X × List (Nat × List UInt8) × List Nat)(g:Lnk X→Nat):∀ (ls:List (Lnk X)) (fr:List Nat),(∀ l∈ls,∀ fr,(f l fr).2.1.length=g l)→(qB3 f ls fr).2.1.length=meas g ls
 | [],fr,_=>by simp[qB3,qC9]
 | l::ls,fr,h=>by
  simp only[qB3,List.length_append];rw[zD0 f g ls _ (fun x hx=>h x (by simp[hx])),h l (by simp),qE0]
theorem qX5:∀ (n:Nat) (l:Lnk (Tn n)) (fr:List Nat),(qA0 n l fr).2.1.length=news n l
 | 0,l,fr=>by
  simp only[qA0,news];split<;>simp
 | n+1,l,fr=>by
  simp only[qA0,news];split
  ·simp
  ·simp only[List.length_append,List.length_cons,List.length_nil];rw[zD0 (qA0 n) (news n) _ fr (fun l _ fr=>qX5 n l fr)];exact Nat.add_comm _ _
theorem zW9:∀ (n:Nat) (l:Lnk (Tn n)) (fr:List Nat),(qA0 n l fr).1.key=l.key
 | 0,l,fr=>by
  simp only[qA0];split<;>rfl
 | n+1,l,fr=>by
  simp only[qA0];split<;>rfl
theorem zI4{X:Type}(f:Lnk X→List Nat→Lnk X × List (Nat × List UInt8) × List Nat):∀ (ls:List (Lnk X)) (fr:List Nat),(qB3 f ls fr).1.length=ls.length
 | [],fr=>rfl
 | l::ls,fr=>by simp only[qB3,List.length_cons,zI4 f ls]
theorem zD1(n:Nat):∀ (ls:List (Lnk (Tn n))) (fr:List Nat),meas ψ ((qB3 (qA0 n) ls fr).1.map lhl)=meas qA3 ls
 | [],fr=>rfl
 | l::ls,fr=>by
  simp only[qB3,List.map_cons,qE0,zD1 n ls];simp only[ψ,qA3,lhl,zW9]
theorem jI2(N n:Nat)(hN:N≤1000)(l:Lnk (Tn n))(fr:List Nat)(hk:l.key.size≤8)(hr:∀ x,l.ref=some x→x.1≤1000000∧0≤x.2)(hf:∀ b∈fr,b<N):(lhl (qA0 n l fr).1).key.size≤8∧0≤(lhl (qA0 n l fr).1).b∧(lhl (qA0 n l fr).1).b≤1000000∧0≤(lhl (qA0 n l fr).1).s:=by
 have hd:∀ g:List Nat,(∀ b∈g,b<N)→g.headD 0≤1000000:=fun g hg=>by
  cases g with
  | nil=>simp
  | cons b g=>have:=hg b (by simp);simp;omega
 have hold:∀ (m:Lnk (Tn n)),m.key.size≤8→(∀ x,m.ref=some x→x.1≤1000000∧0≤x.2)→(lhl m).key.size≤8∧0≤(lhl m).b∧(lhl m).b≤1000000∧0≤(lhl m).s:=fun m h1 h2=>by
  refine⟨h1,?_⟩;simp only[lhl]
  cases hm:m.ref with
  | none=>simp
  | some x=>have:=h2 x hm;simp only[Option.getD_some];omega
 have hnew:∀ (k:ByteArray) (t:Tn n) (b:Nat) (s:Int),k.size≤8→b≤1000000→0≤s→(lhl (⟨k,some (b,s),t⟩:Lnk (Tn n))).key.size≤8∧0≤(lhl (⟨k,some (b,s),t⟩:Lnk (Tn n))).b∧(lhl (⟨k,some (b,s),t⟩:Lnk (Tn n))).b≤1000000∧0≤(lhl (⟨k,some (b,s),t⟩:Lnk (Tn n))).s:=fun k t b s h1 h2 h3=>⟨h1,by simp only[lhl,Option.getD_some];omega⟩
 cases n with
 | zero=>
  simp only[qA0];split
  ·exact hold l hk hr
  ·exact hnew _ _ _ _ hk (hd fr hf) (qQ5 _)
 | succ n=>
  simp only[qA0];split
  ·exact hold l hk hr
  ·have hg:∀ b∈(qB3 (qA0 n) (η l.sub) fr).2.2,b<N:=fun b hb=>by
    rw[qP9 (qA0 n) (news n) _ fr (fun l _ fr=>qN9 n l fr)] at hb;exact hf b (List.mem_of_mem_drop hb)
   exact hnew _ _ _ _ hk (hd _ hg) (qQ5 _)
theorem zY4(N n:Nat)(hN:N≤1000):∀ (ls:List (Lnk (Tn n))) (fr:List Nat),(∀ l∈ls,l.key.size≤8∧∀ x,l.ref=some x→x.1≤1000000∧0≤x.2)→(∀ b∈fr,b<N)→∀ p∈(qB3 (qA0 n) ls fr).1.map lhl,p.key.size≤8∧0≤p.b∧p.b≤1000000∧0≤p.s
 | [],fr,_,_=>by simp[qB3]
 | l::ls,fr,h,hf=>by
  intro p hp;simp only[qB3,List.map_cons,List.mem_cons] at hp;rcases hp with rfl|hp
  ·exact jI2 N n hN l fr (h l (by simp)).1 (h l (by simp)).2 hf
  ·exact zY4 N n hN ls _ (fun x hx=>h x (by simp[hx])) (fun b hb=>by rw[qN9] at hb;exact hf b (List.mem_of_mem_drop hb)) p hp
variable {κ:Nat}
theorem jH1(wn:Int)(V A N C base F:Nat)(O:qF0)(hO:∀ (n b:Nat) (s:Int) (t:Tn n),O n b s t→b≤1000000∧0≤s)(n:Nat)(IH:qW3 κ wn V A N C base F O n)(hVA:V≠A)(hNN:N≤1000)(h r:HL)(q:Nat)(L:Lnk (Tn (n+1)))(b:Nat)(fr0 fr:List Nat)(ws:List (Nat × List UInt8))(w:World)
  (hy:Ly κ wn V A N C base F ws fr0 w) (hp:h.p=some q) (hq:RN O (n+1) w q L.sub) (hlv:n+1<256) (hok:∀ m∈η L.sub,OkL n m) (hm:2+meas qA3 (η L.sub)≤128) (hnl:(η L.sub).length≤126)
  (hn:meas (news n) (η L.sub)≤fr0.length) (hf:∀ b∈fr0,b<N) (hl:ws.length+fr0.length≤100000) (hfr:(qB3 (qA0 n) (η L.sub) fr0).2.2=b::fr):
  Calls prog 106 #[φ V r,qC5 h,qQ2 F] w fun e w'=>e=.returned (qC5 ⟨h.key,(b:Int),fnv (qA1 ((n+1:Nat):Int) [] ((qB3 (qA0 n) (η L.sub) fr0).1.map lhl)),none⟩)∧
   Ly κ wn V A N C base F (ws++(qB3 (qA0 n) (η L.sub) fr0).2.1++[(b,toB (qA1 ((n+1:Nat):Int) [] ((qB3 (qA0 n) (η L.sub) fr0).1.map lhl)))]) fr w'∧Wx base [A,F] w w':=by
 obtain⟨vl,hq,hs,hsl,hbo⟩:=hq;obtain⟨lb,lc,rfl⟩:=qJ8 hsl;obtain⟨ln,hln⟩:∃ ln,ln=hs.length:=⟨_,rfl⟩;obtain⟨pb,hpb⟩:∃ pb:Option Addr,pb=none:=⟨_,rfl⟩;obtain⟨pn,hpn⟩:∃ pn,pn=0:=⟨_,rfl⟩;obtain⟨pc,hpc⟩:∃ pc,pc=0:=⟨_,rfl⟩;obtain⟨lv,hlve⟩:∃ lv:Int,lv=((n+1:Nat):Int):=⟨_,rfl⟩;obtain⟨vl,hvl⟩:∃ vl,vl=Value.slice lb ln lc:=⟨_,rfl⟩;rw[←hlve,←hln,←hvl] at hq;rw[←hln] at hsl;have hq':w.heap[q]?=some (υ lv (.slice pb pn pc) vl):=by rw[hpb,hpn,hpc];exact hq
 have HQ:=zh hq';have HPN:Hid (pb=none∧pn=0∧pc=0∧lv=((n+1:Nat):Int)∧vl=.slice lb ln lc∧ln=hs.length):=⟨hpb,hpn,hpc,hlve,hvl,hln⟩;have HSL:=zh hsl;have HBO:=zh hbo;have hqs:=ζ hq;have HY:=zh hy;have hptr:h.ptr=some ⟨q,0,none⟩:=by simp[HL.ptr,hp]
 rw[φ,qC5,hptr,qQ2];obtain⟨R,hRe⟩:∃ R,R=qB3 (qA0 n) (η L.sub) fr0:=⟨_,rfl⟩;rw[←hRe];have HRE:Hid (R=qB3 (qA0 n) (η L.sub) fr0∧(qB3 (qA0 n) (η L.sub) fr0).2.2=b::fr):=⟨hRe,hfr⟩;clear hq hq' hy hp hptr hpb hpn hpc hlve hvl hln hsl hbo hRe hfr;go_enter func106,ntmps106;go_wp2_with fail;obtain⟨w0,hw0,hT0,hL0,hR0,hK0,hs0⟩:=qW4 w (.cells #[.pointer (some ⟨V,0,none⟩),.string r.key,.int .i64 r.b,.int .u64 r.s,.pointer r.ptr] 83) (.cells #[.string h.key,.int .i64 h.b,.int .u64 h.s,.pointer (some ⟨q,0,none⟩)] 81) (.cells qJ5 81);unfold qJ5 at hR0 hw0;rw[←hw0];clear hw0;have hS0:w0.drew.heap[w.heap.size+1]?=some (.cells #[.string h.key,.int .i64 h.b,.int .u64 h.s,.pointer (some ⟨q,0,none⟩)] 81)∧w0.drew.heap[q]?=some (υ lv (.slice pb pn pc) vl):=⟨hL0,hK0.hp HQ.out⟩;refine wp_region_held_drew (S:=fun W=>W.heap[w.heap.size+1]?=some (.cells #[.string h.key,.int .i64 h.b,.int .u64 h.s,.pointer (some ⟨q,0,none⟩)] 81)∧W.heap[q]?=some (υ lv (.slice pb pn pc) vl)) (by kernel_rfl) hS0 (fun _=>?_);refine zU 0 (.pointer (some ⟨w.heap.size+1,3,none⟩)) hS0 ?_;refine zV 1 (.pointer (some ⟨q,0,none⟩)) rfl (fun W hS=>by have a:=ξ hS.1 3;simp only[zG,zH,zI] at a;clear hS;go_simp) hS0 ?_;refine zV 2 (.pointer (some ⟨q,0,none⟩)) rfl (fun W hS=>by have c:=ζ hS.2;clear hS;go_simp) hS0 ?_;refine zP 3 q 0 hS0 ?_;refine zV 4 (.int .i64 lv) rfl (fun W hS=>by have a:=ξ hS.2 0;simp only[υ,zG,zH,zI] at a;clear hS;go_simp) hS0 ?_;refine zU 5 (.pointer (some ⟨w.heap.size+1,3,none⟩)) hS0 ?_;refine zV 6 (.pointer (some ⟨q,0,none⟩)) rfl (fun W hS=>by have a:=ξ hS.1 3;simp only[zG,zH,zI] at a;clear hS;go_simp) hS0 ?_;refine zV 7 (.pointer (some ⟨q,0,none⟩)) rfl (fun W hS=>by have c:=ζ hS.2;clear hS;go_simp) hS0 ?_;refine zP 8 q 1 hS0 ?_;refine zV 9 (.slice pb pn pc) rfl (fun W hS=>by have a:=ξ hS.2 1;simp only[υ,zG,zH,zI] at a;clear hS;go_simp) hS0 ?_;refine zU 10 (.agg #[.int .i64 lv,.slice pb pn pc,.slice none 0 0]) hS0 ?_;refine zq 11 fun K hK=>?_;go_simp;obtain⟨w1,hw1,hN1,hK1⟩:∃ w1,w1=(w0.alloc (.cells #[.int .i64 0,.slice none 0 0,.slice none 0 0] 152)).drew∧w1.heap[w.heap.size+3]?=some (.cells #[.int .i64 0,.slice none 0 0,.slice none 0 0] 152)∧Kp [] w0 w1:=⟨_,rfl,by rw[←hs0];exact μ w0 _,((Kp.refl _ _).alloc _).drew⟩;rw[←hw1];have hs1:w1.heap.size=w.heap.size+4:=by rw[hw1];simp[hs0]
 clear hw1;refine hK.out _ _ ⟨hK1.hp hS0.1,hK1.hp hS0.2⟩ (fun _=>?_);clear hK K
 try simp only[zZ]
 refine zq 12 fun K hK=>?_;have z0:=ξ hN1;have f0:=ρ hN1;have hN1s:=ζ hN1;have HN1:=zh hN1;clear hN1;go_simp;obtain⟨w2,hw2,hN2,hK2⟩:∃ w2,w2=((w1.setCell ⟨w.heap.size+3,0,none⟩ (.int .i64 lv)).setCell ⟨w.heap.size+3,1,none⟩ (.slice pb pn pc)).setCell ⟨w.heap.size+3,2,none⟩ (.slice none 0 0)∧w2.heap[w.heap.size+3]?=some (υ lv (.slice pb pn pc) (.slice none 0 0))∧Kp [w.heap.size+3] w1 w2:=
  ⟨_,rfl,ω (ω (ω HN1.out 0 _) 1 _) 2 _,(((Kp.refl _ _).sc _).sc _).sc _⟩
 rw[←hw2];clear hw2 z0 f0;have hKw2:Kp [] w w2:=(hK0.tr hK1).tr hK2;have hK02:Kp [] w0 w2:=hK1.trans hK2 (by simp;omega);have hS2:=And.intro (hK02.hp hS0.1) (hK02.hp hS0.2);refine hK.out _ _ hS2 (fun _=>?_);clear hK K;refine zd ?_
 try simp only[zZ]
 have hs2:w.heap.size+4≤w2.heap.size:=by have:=hK2.size;omega
 have hT2:=hK02.hp hT0;have hR2:=hK02.hp hR0;have l3:=ξ hS2.1 3;have q2:=ξ hS2.2 2;simp only[υ,zG,zH,zI] at l3 q2;have HL2:=zh hS2.1;have HT2:=zh hT2;have HR2:=zh hR2;have HN2:=zh hN2;have HK2:=zh hKw2;have hqs2:=ζ hS2.2;clear hS0 hS2 hT2 hR2 hN2 hKw2 hK02 hK2 hK1 hK0 hT0 hL0 hR0 HN1 hN1s hs1 hs0;rw[HPN.out.2.2.2.2.1] at q2;have hAs:A<w.heap.size:=by obtain⟨v,c1,h1,_⟩:=HY.out.hA;exact ζ h1
 have hFs:F<w.heap.size:=by obtain⟨vf,h1,_⟩:=HY.out.hF;exact ζ h1
 have HY2:Hid (Ly κ wn V A N C base F ws fr0 w2):=HY.out.keep HK2.out;have HW2:Hid (Wx base [A,F] w w2):=Wx.ofKp (HK2.out.mono (by simp)) HY.out.low;go_wp2_with fail
 go_loopw [31] (fun i wr=>∃ (j:Nat) (vj:Value),j≤ln∧i=.int .i64 j∧w.heap.size+4≤wr.heap.size∧Hid (wr.heap[w.heap.size+1]?=some (.cells #[.string h.key,.int .i64 h.b,.int .u64 h.s,.pointer (some ⟨q,0,none⟩)] 81))∧Hid (wr.heap[w.heap.size]?=some (.cells #[.pointer (some ⟨V,0,none⟩),.string r.key,.int .i64 r.b,.int .u64 r.s,.pointer r.ptr] 83))∧Hid (wr.heap[w.heap.size+1+1]?=some (.cells #[.string ⟨#[]⟩,.int .i64 0,.int .u64 0,.pointer none] 81))∧Hid (wr.heap[w.heap.size+3]?=some (υ lv (.slice pb pn pc) vj))∧Hid (wr.ownsRow (w.heap.size+4) 81 4 vj j (qA5 ((qB3 (qA0 n) ((η L.sub).take j) fr0).1.map lhl)))∧Hid (Ly κ wn V A N C base F (ws++(qB3 (qA0 n) ((η L.sub).take j) fr0).2.1) (qB3 (qA0 n) ((η L.sub).take j) fr0).2.2 wr)∧Hid (Wx base [A,F] w wr)) (fun i _=>ln-(intOf i).toNat)
 case atStart=>exact⟨0,.slice none 0 0,Nat.zero_le _,rfl,hs2,HL2,HT2,HR2,HN2,by show World.ownsRow _ _ _ _ _ _ _;exact World.ownsRow_nil _ _ _ _,by show Ly _ _ _ _ _ _ _ _ _ _ _;simpa [qB3] using HY2.out,HW2⟩
 case round=>
  obtain⟨j,vj,hj,rfl,hsw,HLr,HTr,HRr,HNr,HOr,HYr,HWr⟩:=hrel;clear l3 q2 HL2 HT2 HR2 HN2 HY2 HW2 hs2 hqs2;by_cases hlt:j<ln
  ·have hjl:j<hs.length:=by have:=HPN.out;omega
   have hjm:j<(η L.sub).length:=by rw[←HBO.out.1];exact hjl
   have hsl0:=HSL.out;rw[HPN.out.2.2.2.2.2] at hsl0;obtain⟨gb,off,cp',cur,fq,hv,hcp,hrow,hcur⟩:=hsl0.link (by omega);obtain⟨c0,c1,c2,c3⟩:=hcur j hjl;simp only[Value.slice.injEq,true_and] at hv;obtain⟨rfl,rfl⟩:=hv;have hap:=HY.out.apt;have hR:=HWr.out.oth _ _ _ _ hrow (by decide) (fun hm=>hap _ hm _ _ _ hrow (by decide));have a0:=ξ hR (off+j*4);have a1:=ξ hR (off+j*4+1);have a2:=ξ hR (off+j*4+2);have a3:=ξ hR (off+j*4+3);rw[c0] at a0;rw[c1] at a1;rw[c2] at a2;rw[c3] at a3;have hgs:=ζ hR;have hjb:(j:Int)<(ln:Int):=by omega
   have HRL:Hid (RL O n wr hs[j] (η L.sub)[j]):=(HBO.out.2 j hjl hjm).mono (fun q hq=>RN.wx HWr.out hap n q _ hq) (fun _ _ h=>h);clear hcur hsl0 hcp hap;go_wp2_with fail;rename_i K0 hK0;obtain⟨X,hX⟩:∃ X,X=lhl (qA0 n (η L.sub)[j] (qB3 (qA0 n) ((η L.sub).take j) fr0).2.2).1:=⟨_,rfl⟩;have hXp:X.ptr=none:=by rw[hX];rfl
   have hsn:=zW8 (qA0 n) ((η L.sub).take j) (η L.sub)[j] fr0;rw[←List.take_succ_eq_append_getElem hjm] at hsn;have HSN:=zh hsn;have HX:=zh hX;obtain⟨w1,hw1,h91,hK1,hs1⟩:=qE8 wr (.cells #[.string hs[j].key,.int .i64 hs[j].b,.int .u64 hs[j].s,.pointer hs[j].ptr] 81);rw[←hw1];clear hw1 hsn hX a0 a1 a2 a3 hR hrow c0 c1 c2 c3 hgs hjb;have hSd:w1.drew.heap[w.heap.size]?=some (.cells #[.pointer (some ⟨V,0,none⟩),.string r.key,.int .i64 r.b,.int .u64 r.s,.pointer r.ptr] 83)∧w1.drew.heap[wr.heap.size]?=some (.cells #[.string hs[j].key,.int .i64 hs[j].b,.int .u64 hs[j].s,.pointer hs[j].ptr] 81):=⟨hK1.hp HTr.out,h91⟩;have hKd:Kp [] wr w1.drew:=hK1.drew;have hNd:=hKd.hp HNr.out;have hYd:=HYr.out.keep hKd;have HCALL:Hid (Calls prog 106 #[φ V r,qC5 hs[j],qQ2 F] w1.drew fun e w'=>e=.returned (.agg #[.string X.key,.int .i64 X.b,.int .u64 X.s,.pointer none])∧Ly κ wn V A N C base F (ws++(qB3 (qA0 n) ((η L.sub).take (j+1)) fr0).2.1) (qB3 (qA0 n) ((η L.sub).take (j+1)) fr0).2.2 w'∧Wx base [A,F] w1.drew w'):=by
    have hfree:=qP9 (qA0 n) (news n) ((η L.sub).take j) fr0 (fun l _ fr=>qN9 n l fr);have hcnt:=zD0 (qA0 n) (news n) ((η L.sub).take j) fr0 (fun l _ fr=>qX5 n l fr);have hmj:=qX8 (news n) (η L.sub) j hjm;refine (IH hs[j] r (η L.sub)[j] _ _ w1.drew hYd (RL.keep HRL.out hKd (Apt.nil _ _)) (hok _ (List.getElem_mem hjm)) (by rw[hfree,List.length_drop];omega) (fun b hb=>hf b (by rw[hfree] at hb;exact List.mem_of_mem_drop hb)) (by rw[hfree,List.length_append,hcnt,List.length_drop];omega)).mono ?_;rintro e w' ⟨rfl,h1,h2⟩;rw[HSN.out,←List.append_assoc];exact⟨by rw[←HX.out,qC5,hXp],h1,h2⟩
   have HIN:=zh hKd;refine qZ5 (α:=Nat→Nat→Nat→Act) (R:=fun A0=>∀ g c d W,(w.heap.size+4≤W.heap.size∧W.heap[w.heap.size+1]?=some (.cells #[.string h.key,.int .i64 h.b,.int .u64 h.s,.pointer (some ⟨q,0,none⟩)] 81)∧W.heap[w.heap.size]?=some (.cells #[.pointer (some ⟨V,0,none⟩),.string r.key,.int .i64 r.b,.int .u64 r.s,.pointer r.ptr] 83)∧W.heap[w.heap.size+1+1]?=some (.cells #[.string ⟨#[]⟩,.int .i64 0,.int .u64 0,.pointer none] 81)∧W.heap[w.heap.size+3]?=some (υ lv (.slice pb pn pc) (.slice (some ⟨g,0,none⟩) (j+1) c))∧W.ownsRow (w.heap.size+4) 81 4 (.slice (some ⟨g,0,none⟩) (j+1) c) (j+1) (qA5 ((qB3 (qA0 n) ((η L.sub).take (j+1)) fr0).1.map lhl))∧Ly κ wn V A N C base F (ws++(qB3 (qA0 n) ((η L.sub).take (j+1)) fr0).2.1) (qB3 (qA0 n) ((η L.sub).take (j+1)) fr0).2.2 W∧Wx base [A,F] w W)→K0 (A0 g c d) W) ?_;apply Exists.intro;apply And.intro
   rotate_left
   ·intro HREST;refine wp_region_held_drew (S:=fun W=>W.heap[w.heap.size]?=some (.cells #[.pointer (some ⟨V,0,none⟩),.string r.key,.int .i64 r.b,.int .u64 r.s,.pointer r.ptr] 83)∧W.heap[wr.heap.size]?=some (.cells #[.string hs[j].key,.int .i64 hs[j].b,.int .u64 hs[j].s,.pointer hs[j].ptr] 81)) (by kernel_rfl) hSd (fun _=>?_);refine zU 0 (.pointer (some ⟨w.heap.size+3,2,none⟩)) hSd ?_;refine zV 2 (.agg #[.pointer (some ⟨V,0,none⟩),.string r.key,.int .i64 r.b,.int .u64 r.s,.pointer r.ptr]) rfl (fun W hS=>by have a:=ξ hS.1;clear hS;go_simp) hSd ?_;refine zV 3 (.agg #[.string hs[j].key,.int .i64 hs[j].b,.int .u64 hs[j].s,.pointer hs[j].ptr]) rfl (fun W hS=>by have a:=ξ hS.2;clear hS;go_simp) hSd ?_;refine zU 4 (.func (.func 107) #[] #[.pointer (some ⟨F,0,none⟩)]) hSd ?_;refine zr 1 5 (fun K hK=>?_) fun K hK=>?_
    ·skip
     have c2:=ξ hNd 2;simp only[υ,zG,zH,zI] at c2;go_simp;refine hK.out _ _ hSd (fun _=>?_);clear hK K c2
     try simp only[zZ]
     refine zq 5 fun K hK=>?_;go_simp;refine (show Calls _ _ _ _ _ from HCALL.out).mono ?_;rintro e w2 ⟨rfl,hy2,hW2⟩;have hS2:=And.intro (hW2.oth _ _ _ _ hSd.1 (by decide) (by simp;omega)) (hW2.oth _ _ _ _ hSd.2 (by decide) (by simp;omega));have hN2:=hW2.oth _ _ _ _ hNd (by decide) (by simp;omega);have hs2:w1.heap.size≤w2.heap.size:=hW2.size;refine hK.out _ _ hS2 (fun _=>?_);clear hK K
     try simp only[zZ]
     refine zq 6 fun K hK=>?_;go_simp;obtain⟨w3,hw3,hB3,hK3,hs3⟩:=qE8 w2 (.cells #[.string X.key,.int .i64 X.b,.int .u64 X.s,.pointer none] 81);rw[←hw3];clear hw3;obtain⟨d,hd⟩:∃ d,d=w2.heap.size:=⟨_,rfl⟩;rw[←hd] at hB3 ⊢;clear hd;have hS3:=And.intro (hK3.hp hS2.1) (hK3.hp hS2.2);have hN3:=hK3.hp hN2;refine hK.out _ _ hS3 (fun _=>?_);clear hK K
     try simp only[zZ]
     have hownd:=qF8 HOr.out HIN.out (Apt.nil _ _);have hown3:=qF8 (zK8 hownd hW2 (by decide) (hYd.apt.sub (by decide))) hK3 (Apt.nil _ _);refine zq 7 fun K hK=>?_;refine qM4 rfl rfl (.agg #[.string ⟨#[]⟩,.int .i64 0,.int .u64 0,.pointer none]) 4 40 underlying150 qQ6 rfl (by decide) (w.heap.size+4) vj j _ (by simp[Act.eval]) hown3 d 0 1 1 #[.string X.key,.int .i64 X.b,.int .u64 X.s,.pointer none] 81 (0,0) (by simp[Act.eval]) hB3 (by simp) (by simp[qA2,Value.oneCell']) (by omega) (by omega) (by omega) ?_;intro v4 w4 hown4 hgr4 _;obtain⟨g1,cap1,rfl⟩:=qJ2 (n:=j) hown4;have hKg:Kp vj.ownBlock.toList w3 w4:=(Kp.refl _ _).grown hgr4 (fun k hk=>Or.inl (by simp[hk]));have hlo:∀ k,k<w.heap.size+4∨k=wr.heap.size→k ∉ vj.ownBlock.toList:=fun k hk hm=>by
      have h1:=qQ8 HOr.out k (by simpa using hm);omega
     have hS4:=And.intro (hKg.heap hS3.1 (hlo _ (by omega))) (hKg.heap hS3.2 (hlo _ (Or.inr rfl)));have hN4:=hKg.heap hN3 (hlo _ (by omega));have hN4s:=ζ hN4;refine hK.out _ _ hS4 (fun _=>?_);clear hK K
     try simp only[zZ]
     refine zU 8 (.pointer (some ⟨w.heap.size+3,2,none⟩)) hS4 ?_;refine zq 9 fun K hK=>?_;have d2:=ξ hN4 2;simp only[υ,zG,zH,zI] at d2;have e2:=ρ hN4 2;go_simp;have hKs:Kp [w.heap.size+3] w4 (w4.setCell ⟨w.heap.size+3,2,none⟩ (.slice (some ⟨g1,0,none⟩) (j+1) cap1)):=(Kp.refl _ _).sc _;have hR5:=ω hN4 2 (.slice (some ⟨g1,0,none⟩) (j+1) cap1);have haN:∀ {Ts:List TypeId},152 ∉ Ts→Apt w4 [w.heap.size+3] Ts:=fun hT q hq c t fr e=>by rw[List.mem_singleton.1 hq,hN4] at e;cases e;exact hT
     generalize w4.setCell ⟨w.heap.size+3,2,none⟩ (.slice (some ⟨g1,0,none⟩) (j+1) cap1)=w5 at hKs hR5 ⊢;refine hK.out _ _ ⟨hKs.hp hS4.1,hKs.ho hS4.2⟩ (fun _=>?_);clear hK K d2 e2;refine zd ?_
     try simp only[zZ]
     have hw5:Wx base [A,F] w w5:=((((HWr.out.trans ((Wx.ofKp (HIN.out.mono (by simp)) HYr.out.low).trans hW2)).tail hK3 (by simp) HY.out.low).tail hKg (fun k hk=>by have:=qQ8 HOr.out k (by simpa using hk);omega) HY.out.low).tail hKs (by simp) HY.out.low);have hy5:=((hy2.keep hK3).turn hKg (zK5 hown3 (by decide))).turn hKs (haN (by decide));have hK35:∀ k c t fr,w3.heap[k]?=some (.cells c t fr)→k<w.heap.size+3→w5.heap[k]?=some (.cells c t fr):=fun k c t fr e hk=>hKs.heap (hKg.heap e (hlo k (by omega))) (by simp;omega);have hto:∀ k c t fr,wr.heap[k]?=some (.cells c t fr)→t≠89→w.heap.size≤k→k<w.heap.size+3→w5.heap[k]?=some (.cells c t fr):=fun k c t fr e ht h1 h2=>hK35 k c t fr (hK3.heap (hW2.oth _ _ _ _ (HIN.out.hp e) ht (by simp;omega)) (by simp)) h2;show K0 _ w5;refine HREST g1 cap1 d w5 ⟨by have:=hKs.size;have:=hKg.size;omega,hto _ _ _ _ HLr.out (by decide) (by omega) (by omega),hto _ _ _ _ HTr.out (by decide) (by omega) (by omega),hto _ _ _ _ HRr.out (by decide) (by omega) (by omega),hR5,?_,hy5,hw5⟩;have e:qA5 ((qB3 (qA0 n) ((η L.sub).take (j+1)) fr0).1.map lhl)=qA5 ((qB3 (qA0 n) ((η L.sub).take j) fr0).1.map lhl)++(qA2 #[.string X.key,.int .i64 X.b,.int .u64 X.s,.pointer none] 0 (1*4)).toList:=by
      rw[HSN.out,List.map_append,List.map_cons,List.map_nil,←HX.out];simp[qA5,lcs,qA2,hXp]
     rw[e];exact qF8 hown4 hKs (haN (by decide))
    ·skip
     go_simp;refine (show Calls _ _ _ _ _ from HCALL.out).mono ?_;rintro e w2 ⟨rfl,hy2,hW2⟩;have hS2:=And.intro (hW2.oth _ _ _ _ hSd.1 (by decide) (by simp;omega)) (hW2.oth _ _ _ _ hSd.2 (by decide) (by simp;omega));have hN2:=hW2.oth _ _ _ _ hNd (by decide) (by simp;omega);have hs2:w1.heap.size≤w2.heap.size:=hW2.size;refine hK.out _ _ hS2 (fun _=>?_);clear hK K
     try simp only[zZ]
     refine zr 1 6 (fun K hK=>?_) fun K hK=>?_
     ·skip
      have c2:=ξ hN2 2;simp only[υ,zG,zH,zI] at c2;go_simp;refine hK.out _ _ hS2 (fun _=>?_);clear hK K c2
      try simp only[zZ]
      refine zq 6 fun K hK=>?_;go_simp;obtain⟨w3,hw3,hB3,hK3,hs3⟩:=qE8 w2 (.cells #[.string X.key,.int .i64 X.b,.int .u64 X.s,.pointer none] 81);rw[←hw3];clear hw3;obtain⟨d,hd⟩:∃ d,d=w2.heap.size:=⟨_,rfl⟩;rw[←hd] at hB3 ⊢;clear hd;have hS3:=And.intro (hK3.hp hS2.1) (hK3.hp hS2.2);have hN3:=hK3.hp hN2;refine hK.out _ _ hS3 (fun _=>?_);clear hK K
      try simp only[zZ]
      have hownd:=qF8 HOr.out HIN.out (Apt.nil _ _);have hown3:=qF8 (zK8 hownd hW2 (by decide) (hYd.apt.sub (by decide))) hK3 (Apt.nil _ _);refine zq 7 fun K hK=>?_;refine qM4 rfl rfl (.agg #[.string ⟨#[]⟩,.int .i64 0,.int .u64 0,.pointer none]) 4 40 underlying150 qQ6 rfl (by decide) (w.heap.size+4) vj j _ (by simp[Act.eval]) hown3 d 0 1 1 #[.string X.key,.int .i64 X.b,.int .u64 X.s,.pointer none] 81 (0,0) (by simp[Act.eval]) hB3 (by simp) (by simp[qA2,Value.oneCell']) (by omega) (by omega) (by omega) ?_;intro v4 w4 hown4 hgr4 _;obtain⟨g1,cap1,rfl⟩:=qJ2 (n:=j) hown4;have hKg:Kp vj.ownBlock.toList w3 w4:=(Kp.refl _ _).grown hgr4 (fun k hk=>Or.inl (by simp[hk]));have hlo:∀ k,k<w.heap.size+4∨k=wr.heap.size→k ∉ vj.ownBlock.toList:=fun k hk hm=>by
       have h1:=qQ8 HOr.out k (by simpa using hm);omega
      have hS4:=And.intro (hKg.heap hS3.1 (hlo _ (by omega))) (hKg.heap hS3.2 (hlo _ (Or.inr rfl)));have hN4:=hKg.heap hN3 (hlo _ (by omega));have hN4s:=ζ hN4;refine hK.out _ _ hS4 (fun _=>?_);clear hK K
      try simp only[zZ]
      refine zU 8 (.pointer (some ⟨w.heap.size+3,2,none⟩)) hS4 ?_;refine zq 9 fun K hK=>?_;have d2:=ξ hN4 2;simp only[υ,zG,zH,zI] at d2;have e2:=ρ hN4 2;go_simp;have hKs:Kp [w.heap.size+3] w4 (w4.setCell ⟨w.heap.size+3,2,none⟩ (.slice (some ⟨g1,0,none⟩) (j+1) cap1)):=(Kp.refl _ _).sc _;have hR5:=ω hN4 2 (.slice (some ⟨g1,0,none⟩) (j+1) cap1);have haN:∀ {Ts:List TypeId},152 ∉ Ts→Apt w4 [w.heap.size+3] Ts:=fun hT q hq c t fr e=>by rw[List.mem_singleton.1 hq,hN4] at e;cases e;exact hT
      generalize w4.setCell ⟨w.heap.size+3,2,none⟩ (.slice (some ⟨g1,0,none⟩) (j+1) cap1)=w5 at hKs hR5 ⊢;refine hK.out _ _ ⟨hKs.hp hS4.1,hKs.ho hS4.2⟩ (fun _=>?_);clear hK K d2 e2;refine zd ?_
      try simp only[zZ]
      have hw5:Wx base [A,F] w w5:=((((HWr.out.trans ((Wx.ofKp (HIN.out.mono (by simp)) HYr.out.low).trans hW2)).tail hK3 (by simp) HY.out.low).tail hKg (fun k hk=>by have:=qQ8 HOr.out k (by simpa using hk);omega) HY.out.low).tail hKs (by simp) HY.out.low);have hy5:=((hy2.keep hK3).turn hKg (zK5 hown3 (by decide))).turn hKs (haN (by decide));have hK35:∀ k c t fr,w3.heap[k]?=some (.cells c t fr)→k<w.heap.size+3→w5.heap[k]?=some (.cells c t fr):=fun k c t fr e hk=>hKs.heap (hKg.heap e (hlo k (by omega))) (by simp;omega);have hto:∀ k c t fr,wr.heap[k]?=some (.cells c t fr)→t≠89→w.heap.size≤k→k<w.heap.size+3→w5.heap[k]?=some (.cells c t fr):=fun k c t fr e ht h1 h2=>hK35 k c t fr (hK3.heap (hW2.oth _ _ _ _ (HIN.out.hp e) ht (by simp;omega)) (by simp)) h2;show K0 _ w5;refine HREST g1 cap1 d w5 ⟨by have:=hKs.size;have:=hKg.size;omega,hto _ _ _ _ HLr.out (by decide) (by omega) (by omega),hto _ _ _ _ HTr.out (by decide) (by omega) (by omega),hto _ _ _ _ HRr.out (by decide) (by omega) (by omega),hR5,?_,hy5,hw5⟩;have e:qA5 ((qB3 (qA0 n) ((η L.sub).take (j+1)) fr0).1.map lhl)=qA5 ((qB3 (qA0 n) ((η L.sub).take j) fr0).1.map lhl)++(qA2 #[.string X.key,.int .i64 X.b,.int .u64 X.s,.pointer none] 0 (1*4)).toList:=by
       rw[HSN.out,List.map_append,List.map_cons,List.map_nil,←HX.out];simp[qA5,lcs,qA2,hXp]
      rw[e];exact qF8 hown4 hKs (haN (by decide))
     ·skip
      go_simp;obtain⟨w3,hw3,hB3,hK3,hs3⟩:=qE8 w2 (.cells #[.string X.key,.int .i64 X.b,.int .u64 X.s,.pointer none] 81);rw[←hw3];clear hw3;obtain⟨d,hd⟩:∃ d,d=w2.heap.size:=⟨_,rfl⟩;rw[←hd] at hB3 ⊢;clear hd;have hS3:=And.intro (hK3.hp hS2.1) (hK3.hp hS2.2);have hN3:=hK3.hp hN2;refine hK.out _ _ hS3 (fun _=>?_);clear hK K
      try simp only[zZ]
      refine zq 1 fun K hK=>?_;have c2:=ξ hN3 2;simp only[υ,zG,zH,zI] at c2;go_simp;refine hK.out _ _ hS3 (fun _=>?_);clear hK K c2
      try simp only[zZ]
      have hownd:=qF8 HOr.out HIN.out (Apt.nil _ _);have hown3:=qF8 (zK8 hownd hW2 (by decide) (hYd.apt.sub (by decide))) hK3 (Apt.nil _ _);refine zq 7 fun K hK=>?_;refine qM4 rfl rfl (.agg #[.string ⟨#[]⟩,.int .i64 0,.int .u64 0,.pointer none]) 4 40 underlying150 qQ6 rfl (by decide) (w.heap.size+4) vj j _ (by simp[Act.eval]) hown3 d 0 1 1 #[.string X.key,.int .i64 X.b,.int .u64 X.s,.pointer none] 81 (0,0) (by simp[Act.eval]) hB3 (by simp) (by simp[qA2,Value.oneCell']) (by omega) (by omega) (by omega) ?_;intro v4 w4 hown4 hgr4 _;obtain⟨g1,cap1,rfl⟩:=qJ2 (n:=j) hown4;have hKg:Kp vj.ownBlock.toList w3 w4:=(Kp.refl _ _).grown hgr4 (fun k hk=>Or.inl (by simp[hk]));have hlo:∀ k,k<w.heap.size+4∨k=wr.heap.size→k ∉ vj.ownBlock.toList:=fun k hk hm=>by
       have h1:=qQ8 HOr.out k (by simpa using hm);omega
      have hS4:=And.intro (hKg.heap hS3.1 (hlo _ (by omega))) (hKg.heap hS3.2 (hlo _ (Or.inr rfl)));have hN4:=hKg.heap hN3 (hlo _ (by omega));have hN4s:=ζ hN4;refine hK.out _ _ hS4 (fun _=>?_);clear hK K
      try simp only[zZ]
      refine zU 8 (.pointer (some ⟨w.heap.size+3,2,none⟩)) hS4 ?_;refine zq 9 fun K hK=>?_;have d2:=ξ hN4 2;simp only[υ,zG,zH,zI] at d2;have e2:=ρ hN4 2;go_simp;have hKs:Kp [w.heap.size+3] w4 (w4.setCell ⟨w.heap.size+3,2,none⟩ (.slice (some ⟨g1,0,none⟩) (j+1) cap1)):=(Kp.refl _ _).sc _;have hR5:=ω hN4 2 (.slice (some ⟨g1,0,none⟩) (j+1) cap1);have haN:∀ {Ts:List TypeId},152 ∉ Ts→Apt w4 [w.heap.size+3] Ts:=fun hT q hq c t fr e=>by rw[List.mem_singleton.1 hq,hN4] at e;cases e;exact hT
      generalize w4.setCell ⟨w.heap.size+3,2,none⟩ (.slice (some ⟨g1,0,none⟩) (j+1) cap1)=w5 at hKs hR5 ⊢;refine hK.out _ _ ⟨hKs.hp hS4.1,hKs.ho hS4.2⟩ (fun _=>?_);clear hK K d2 e2;refine zd ?_
      try simp only[zZ]
      have hw5:Wx base [A,F] w w5:=((((HWr.out.trans ((Wx.ofKp (HIN.out.mono (by simp)) HYr.out.low).trans hW2)).tail hK3 (by simp) HY.out.low).tail hKg (fun k hk=>by have:=qQ8 HOr.out k (by simpa using hk);omega) HY.out.low).tail hKs (by simp) HY.out.low);have hy5:=((hy2.keep hK3).turn hKg (zK5 hown3 (by decide))).turn hKs (haN (by decide));have hK35:∀ k c t fr,w3.heap[k]?=some (.cells c t fr)→k<w.heap.size+3→w5.heap[k]?=some (.cells c t fr):=fun k c t fr e hk=>hKs.heap (hKg.heap e (hlo k (by omega))) (by simp;omega);have hto:∀ k c t fr,wr.heap[k]?=some (.cells c t fr)→t≠89→w.heap.size≤k→k<w.heap.size+3→w5.heap[k]?=some (.cells c t fr):=fun k c t fr e ht h1 h2=>hK35 k c t fr (hK3.heap (hW2.oth _ _ _ _ (HIN.out.hp e) ht (by simp;omega)) (by simp)) h2;show K0 _ w5;refine HREST g1 cap1 d w5 ⟨by have:=hKs.size;have:=hKg.size;omega,hto _ _ _ _ HLr.out (by decide) (by omega) (by omega),hto _ _ _ _ HTr.out (by decide) (by omega) (by omega),hto _ _ _ _ HRr.out (by decide) (by omega) (by omega),hR5,?_,hy5,hw5⟩;have e:qA5 ((qB3 (qA0 n) ((η L.sub).take (j+1)) fr0).1.map lhl)=qA5 ((qB3 (qA0 n) ((η L.sub).take j) fr0).1.map lhl)++(qA2 #[.string X.key,.int .i64 X.b,.int .u64 X.s,.pointer none] 0 (1*4)).toList:=by
       rw[HSN.out,List.map_append,List.map_cons,List.map_nil,←HX.out];simp[qA5,lcs,qA2,hXp]
      rw[e];exact qF8 hown4 hKs (haN (by decide))
   rintro g c d W ⟨e1,e2,e3,e4,e5,e6,e7,e8⟩;refine hK0 _ _ ?_;have HE:Hid (w.heap.size+4≤W.heap.size∧W.heap[w.heap.size+1]?=some (.cells #[.string h.key,.int .i64 h.b,.int .u64 h.s,.pointer (some ⟨q,0,none⟩)] 81)∧W.heap[w.heap.size]?=some (.cells #[.pointer (some ⟨V,0,none⟩),.string r.key,.int .i64 r.b,.int .u64 r.s,.pointer r.ptr] 83)∧W.heap[w.heap.size+1+1]?=some (.cells #[.string ⟨#[]⟩,.int .i64 0,.int .u64 0,.pointer none] 81)∧W.heap[w.heap.size+3]?=some (υ lv (.slice pb pn pc) (.slice (some ⟨g,0,none⟩) (j+1) c))∧W.ownsRow (w.heap.size+4) 81 4 (.slice (some ⟨g,0,none⟩) (j+1) c) (j+1) (qA5 ((qB3 (qA0 n) ((η L.sub).take (j+1)) fr0).1.map lhl))∧Ly κ wn V A N C base F (ws++(qB3 (qA0 n) ((η L.sub).take (j+1)) fr0).2.1) (qB3 (qA0 n) ((η L.sub).take (j+1)) fr0).2.2 W∧Wx base [A,F] w W):=⟨e1,e2,e3,e4,e5,e6,e7,e8⟩;clear e1 e2 e3 e4 e5 e6 e7 e8 hSd hKd hNd hYd h91 hK1 hK0 K0;go_wp2;exact⟨⟨j+1,_,by omega,by go_num,HE.out.1,HE.out.2.1,HE.out.2.2.1,HE.out.2.2.2.1,HE.out.2.2.2.2.1,HE.out.2.2.2.2.2.1,HE.out.2.2.2.2.2.2.1,HE.out.2.2.2.2.2.2.2⟩,by simp[intOf];omega⟩
  ·have hje:(η L.sub).take j=η L.sub:=List.take_of_length_le (by rw[←HBO.out.1];have:=HPN.out;omega);have hjn:j=(η L.sub).length:=by rw[←HBO.out.1];have:=HPN.out;omega
   have hjb:¬(j:Int)<(ln:Int):=by omega
   have hfr:=HRE.out.2;have hRe:=HRE.out.1;have hOe:=HOr.out;have hYe:=HYr.out;rw[hje] at hOe hYe;rw[hfr] at hYe;have hb:b<N:=hf b (by have h:=qP9 (qA0 n) (news n) (η L.sub) fr0 (fun l _ fr=>qN9 n l fr);rw[hfr] at h;exact List.mem_of_mem_drop (h ▸ List.mem_cons_self));have hcnt:=zD0 (qA0 n) (news n) (η L.sub) fr0 (fun l _ fr=>qX5 n l fr);have hlen:=zI4 (qA0 n) (η L.sub) fr0;have hfl:fr.length≤100000:=by have h:=congrArg List.length (qP9 (qA0 n) (news n) (η L.sub) fr0 (fun l _ fr=>qN9 n l fr));rw[hfr] at h;simp at h;omega
   have hms:=zD1 n (η L.sub) fr0;have hzl:=zY4 N n hNN (η L.sub) fr0 (fun l hl=>by
    obtain⟨i,hi,rfl⟩:=List.getElem_of_mem hl;refine⟨by have h:=hok _ hl;cases n with | zero=>exact h.1 | succ n=>exact h.1,fun x hx=>?_⟩;have h2:=(HBO.out.2 i (by rw[HBO.out.1];exact hi) hi).2;rw[hx] at h2;exact hO _ _ _ _ h2.2.2.2) hf
   rw[←hRe] at hOe hYe hcnt hlen hms hzl;have hwl:(ws++R.2.1).length≤100000:=by rw[List.length_append,hcnt];omega
   have HYE:=zh hYe;have HOE:Hid (wr.ownsRow (w.heap.size+4) 81 4 vj (R.1.map lhl).length (qA5 (R.1.map lhl))):=by rw[List.length_map,hlen,←hjn];exact hOe
   have HZL:=zh hzl;have HMS:Hid (2+meas ν []+meas ψ (R.1.map lhl)≤128∧([]:List KV).length+(R.1.map lhl).length≤255):=⟨by rw[hms,qC9];omega,by rw[List.length_map,hlen];simp;omega⟩;clear hje hjn hOe hYe hcnt hlen hms hzl hfr hRe IH hok hm hn;go_wp2_with fail;have hSd:wr.drew.heap[w.heap.size+1]?=some (.cells #[.string h.key,.int .i64 h.b,.int .u64 h.s,.pointer (some ⟨q,0,none⟩)] 81)∧wr.drew.heap[w.heap.size]?=some (.cells #[.pointer (some ⟨V,0,none⟩),.string r.key,.int .i64 r.b,.int .u64 r.s,.pointer r.ptr] 83):=⟨HLr.out,HTr.out⟩;refine wp_region_held_drew (S:=fun W=>W.heap[w.heap.size+1]?=some (.cells #[.string h.key,.int .i64 h.b,.int .u64 h.s,.pointer (some ⟨q,0,none⟩)] 81)∧W.heap[w.heap.size]?=some (.cells #[.pointer (some ⟨V,0,none⟩),.string r.key,.int .i64 r.b,.int .u64 r.s,.pointer r.ptr] 83)) (by kernel_rfl) hSd (fun _=>?_);refine zU 0 (.pointer (some ⟨w.heap.size+1,0,none⟩)) hSd ?_;refine zV 1 (.string h.key) rfl (fun W hS=>by have a:=ξ hS.1 0;simp only[zG,zH,zI] at a;clear hS;go_simp) hSd ?_;refine zP 2 w.heap.size 0 hSd ?_;refine zV 3 (.pointer (some ⟨V,0,none⟩)) rfl (fun W hS=>by have a:=ξ hS.2 0;simp only[zG,zH,zI] at a;clear hS;go_simp) hSd ?_;refine zU 4 (.func (.func 107) #[] #[.pointer (some ⟨F,0,none⟩)]) hSd ?_;refine zq 5 fun K hK=>?_;have hcf:=zR3;go_simp;refine ((HYE.out.keep ((Kp.refl _ wr).drew)).next hfl).mono ?_;rintro e w3 ⟨rfl,hy3,hW3⟩;have hS3:=And.intro (hW3.oth _ _ _ _ hSd.1 (by decide) (by simp;omega)) (hW3.oth _ _ _ _ hSd.2 (by decide) (by simp;omega));have hR3:=hW3.oth _ _ _ _ HRr.out (by decide) (by simp;omega);have hq3:=hW3.oth _ _ _ _ HNr.out (by decide) (by simp;omega);have hs3:=hW3.size;have hsl3:=((qG3 HOE.out).keep0 ((Kp.refl _ wr).drew)).wx hW3 (by decide) ((HYE.out.keep ((Kp.refl _ wr).drew)).apt.sub (by decide));refine hK.out _ _ hS3 (fun _=>?_);clear hK K hcf
   try simp only[zZ]
   refine zq 6 fun K hK=>?_;go_simp;refine (hy3.lay hVA hwl hb hNN (w.heap.size+3) lv (.slice pb pn pc) vj [] (R.1.map lhl) hq3 (by have:=HPN.out;omega) (by have:=HPN.out;omega) (by have e:=HPN.out;rw[e.1,e.2.1,e.2.2.1];exact⟨rfl,Or.inl ⟨rfl,none,0,rfl,fun _=>rfl⟩⟩) hsl3 HMS.out.1 HMS.out.2 (by simp) HZL.out).mono ?_;rintro e w4 ⟨rfl,hy4,hW4⟩;have hS4:=And.intro (hW4.oth _ _ _ _ hS3.1 (by decide) (by simp;omega)) (hW4.oth _ _ _ _ hS3.2 (by decide) (by simp;omega));have hR4:=hW4.oth _ _ _ _ hR3 (by decide) (by simp;omega);refine hK.out _ _ hS4 (fun _=>?_);clear hK K
   try simp only[zZ]
   refine zU 7 (.agg #[.string h.key,.int .i64 b,.int .u64 (fnv (qA1 lv [] (R.1.map lhl))),.pointer none]) hS4 ?_;refine zq 8 fun K hK=>?_;have z0:=ξ hR4;have f0:=ρ hR4;have hR4s:=ζ hR4;have hls:=qK6 (.string h.key) (.int .i64 (b:Int)) (.int .u64 (fnv (qA1 lv [] (R.1.map lhl)))) (.pointer none) hR4;have HR4:=zh hR4;clear hR4;go_simp;obtain⟨w5,hw5,hR5,hK5⟩:∃ w5,w5=(((w4.setCell ⟨w.heap.size+1+1,0,none⟩ (.string h.key)).setCell ⟨w.heap.size+1+1,1,none⟩ (.int .i64 (b:Int))).setCell ⟨w.heap.size+1+1,2,none⟩ (.int .u64 (fnv (qA1 lv [] (R.1.map lhl))))).setCell ⟨w.heap.size+1+1,3,none⟩ (.pointer none)∧w5.heap[w.heap.size+1+1]?=some (.cells #[.string h.key,.int .i64 (b:Int),.int .u64 (fnv (qA1 lv [] (R.1.map lhl))),.pointer none] 81)∧Kp [w.heap.size+1+1] w4 w5:=⟨_,rfl,hls.1,hls.2⟩;rw[←hw5];clear hw5 hls z0 f0;refine hK.out _ _ ⟨hK5.hp hS4.1,hK5.ho hS4.2⟩ (fun _=>?_);clear hK K;refine zd ?_
   try simp only[zZ]
   have hap:Apt w4 [w.heap.size+1+1] [186,72,89,22,3]:=fun q hq c t fr e=>by rw[List.mem_singleton.1 hq,HR4.out] at e;cases e;decide
   have HY5:Hid (Ly κ wn V A N C base F (ws++R.2.1++[(b,toB (qA1 lv [] (R.1.map lhl)))]) fr w5):=hy4.turn hK5 hap;have HW5:Hid (Wx base [A,F] w w5):=((HWr.out).trans (((Wx.ofKp (Kp.mono (S:=[]) ((Kp.refl _ wr).drew) (by simp)) HYE.out.low).trans hW3).trans hW4)).tail hK5 (by simp;omega) HY.out.low;have HR5:=zh hR5;clear hSd hS3 hS4 hR3 hq3 hy3 hW3 hy4 hW4 hR5 hK5 hap HR4 hR4s;go_wp2_with fail;exact bodyPost_ret (results_cell_row results106 _ _ (w.heap.size+1+1) 81 #[.string h.key,.int .i64 (b:Int),.int .u64 (fnv (qA1 lv [] (R.1.map lhl))),.pointer none] (0,0) _ rfl HR5.out underlying81 rfl (by kernel_rfl)) rfl ⟨by simp only[qC5,HL.ptr,HPN.out.2.2.2.1,Option.map_none],by have h:=HY5.out;rw[HPN.out.2.2.2.1] at h;exact h,HW5.out⟩
variable {κ:Nat}
theorem jH4(wn:Int)(V A N C base F:Nat)(O:qF0)(hO:∀ (n b:Nat) (s:Int) (t:Tn n),O n b s t→b≤1000000∧0≤s)(hVA:V≠A)(hN:N≤1000)(n:Nat)(IH:qW3 κ wn V A N C base F O n):qW3 κ wn V A N C base F O (n+1):=by
 intro h r L fr ws w hy hr ho hn hf hl
 cases hx:L.ref with
 | some x=>
  have hs:L.ref.isSome:=by rw[hx];rfl
  obtain⟨hp,he⟩:=zK4 hr hs;have e:qA0 (n+1) L fr=(L,[],fr):=by simp only[qA0,if_pos hs]
  rw[e];refine (zJ1 V r h (qQ2 F) w hp).mono ?_;rintro e w' ⟨rfl,hK⟩;exact⟨by rw[←he],by simpa using hy.keep hK,Wx.ofKp (hK.mono (by simp)) hy.low⟩
 | none=>
  obtain⟨hk,q,hp,hq⟩:=zK1 hr hx;have hns:¬L.ref.isSome=true:=by rw[hx];simp
  have h1:news (n+1) L=1+meas (news n) (η L.sub):=by simp only[news,if_neg hns]
  have hfree:=qP9 (qA0 n) (news n) (η L.sub) fr (fun l _ fr=>qN9 n l fr);obtain⟨z1,z2,z3,z4⟩:=ho.2 hx
  cases hfr:(qB3 (qA0 n) (η L.sub) fr).2.2 with
  | nil=>
   have h2:=congrArg List.length hfree;rw[hfr,List.length_drop] at h2;simp at h2;omega
  | cons b fr'=>
   have e:qA0 (n+1) L fr=(⟨L.key,some (b,fnv (qA1 ((n+1:Nat):Int) [] ((qB3 (qA0 n) (η L.sub) fr).1.map lhl))),(qB3 (qA0 n) (η L.sub) fr).1⟩,(qB3 (qA0 n) (η L.sub) fr).2.1++[(b,toB (qA1 ((n+1:Nat):Int) [] ((qB3 (qA0 n) (η L.sub) fr).1.map lhl)))],fr'):=by
    simp only[qA0,if_neg hns,hfr,List.headD_cons,List.tail_cons]
   rw[e];refine (jH1 wn V A N C base F O hO n IH hVA hN h r q L b fr fr' ws w hy hp hq z1 z2 z3 z4 (by omega) hf hl hfr).mono ?_;rintro e w' ⟨rfl,h2,h3⟩;exact⟨by simp only[lhl,hk,Option.getD_some],by rw[←List.append_assoc];exact h2,h3⟩
theorem zX3(wn:Int)(V A N C base F:Nat)(O:qF0)(hO:∀ (n b:Nat) (s:Int) (t:Tn n),O n b s t→b≤1000000∧0≤s)(hVA:V≠A)(hN:N≤1000):∀ n,qW3 κ wn V A N C base F O n
 | 0=>jH5 wn V A N C base F O hVA hN
 | n+1=>jH4 wn V A N C base F O hO hVA hN n (zX3 wn V A N C base F O hO hVA hN n)
theorem xH8(V A N C:Nat)(l:List UInt8)(wn:Int)(hVA:V≠A)(hAC:C≠A)(hVC:V≠C)(hN:N≤1000)(hs:N*128≤l.length)(h X:HL)(fr:List Nat)(ws:List (Nat × List UInt8))(v:Value)(w:World)(hd:Devl V A N C l wn w)(hv:Slc w 3 1 v fr.length (qG8 fr))(hws:∀ x∈ws,x.1<N∧x.2.length=128)(hwc:ws.length≤10000)(hXp:X.ptr=none)
  (hcall:∀ (F:Nat) (w0:World),Kp [] w w0→Ly (l.length / 128) wn V A N C w0.heap.size F [] fr w0→Calls prog 106 #[φ V h,qC5 h,qQ2 F] w0 fun e w'=>e=.returned (qC5 X)∧(∃ fr',Ly (l.length / 128) wn V A N C w0.heap.size F ws fr' w')∧Wx w0.heap.size [A,F] w0 w'):
  Calls prog 69 #[φ V h,v] w fun e w'=>e=.returned (.agg #[.int .i64 X.b,.int .u64 X.s])∧Devl V A N C (laidAll l ws) (nk wn ws.length) w'∧Kp [A,C] w w':=by
 obtain⟨calls,hA⟩:=hd.hA;obtain⟨bs,cp,rfl⟩:=qJ8 hv;obtain⟨fl,hfl⟩:∃ fl,fl=fr.length:=⟨_,rfl⟩;have HV:Hid (Slc w 3 1 (.slice bs fl cp) fr.length (qG8 fr)):=by rw[hfl];exact hv
 rw[←hfl];have HD:=zh hd;have HA:=zh hA;have HFL:=zh hfl;have hAs:=ζ hA;have hCs:=ζ hd.hC;have HCALL:=zh hcall;clear hd hv hA hfl hcall;rw[φ];go_enter func69,ntmps69;go_wp2_with fail;obtain⟨w0,hw0,hT0,hF0,hR0,hK0,hs0⟩:=qW4 w (.cells #[.pointer (some ⟨V,0,none⟩),.string h.key,.int .i64 h.b,.int .u64 h.s,.pointer h.ptr] 83) (.cells #[.slice bs fl cp] 22) (.cells #[.int .i64 0,.int .u64 0] 78);rw[←hw0];clear hw0;have hy:Ly (l.length / 128) wn V A N C w0.heap.size (w.heap.size+1) [] fr w0:=⟨hK0.hp HD.out.hV,⟨.slice none 0 0,calls,hK0.hp HA.out,World.ownsRow_nil _ _ _ _⟩,⟨_,hF0,HV.out.keep0 hK0⟩,Nat.le_refl _⟩;have hC0:=hK0.hp HD.out.hC;refine (show Calls _ _ _ _ _ from HCALL.out (w.heap.size+1) w0 hK0 hy).mono ?_;rintro e w1 ⟨rfl,⟨fr',hy1⟩,hW1⟩;rw[qC5,hXp];obtain⟨v1,calls1,hA1,hown1⟩:=hy1.hA;have hT1:=hW1.oth _ _ _ _ hT0 (by decide) (by simp;omega);have hR1:=hW1.oth _ _ _ _ hR0 (by decide) (by simp;omega);have hC1:=hW1.oth _ _ _ _ hC0 (by decide) (by simp;omega);have hV1:=hy1.hV;have hs1:=hW1.size;have HK1:Hid (Kp [A] w w1):=⟨hW1.os.trans hK0.os,hW1.tape.trans hK0.tape,hW1.output.trans hK0.output,Nat.le_trans hK0.size hW1.size,fun k hk hm=>(hW1.low k (by omega) (by simp at hm ⊢;omega)).trans (hK0.block k hk (by simp))⟩;clear hy hy1 hW1 hC0 hT0 hF0 hR0 hK0 HV HCALL;have t0:=ξ hT1 0;simp only[zG,zH,zI] at t0;have hT1s:=ζ hT1;go_wp2_with fail;obtain⟨w2,hw2,hL2,hK2,hs2⟩:=qE8 w1 (.cells #[.string X.key,.int .i64 X.b,.int .u64 X.s,.pointer none] 81);rw[←hw2];clear hw2 t0;refine (zF7 V A N C w0.heap.size v1 ws calls1 (nk wn ws.length) l w2 (hK2.hp hV1) (hK2.hp hA1) (qF8 hown1 hK2 (Apt.nil _ _)) hws (by omega) hN (hK2.hp hC1) hs hAC).mono ?_;rintro e w3 ⟨rfl,hA3,hC3,hK3⟩;have hL3:=hK3.ho hL2;have hR3:=hK3.heap (hK2.hp hR1) (by simp;omega);have hV3:=hK3.heap (hK2.hp hV1) (by simp[hVA,hVC]);have hL3s:=ζ hL3;have hR3s:=ζ hR3;have z1:=ξ hL3;have y0:=ξ hR3;have fy0:=ρ hR3;have HR3:=zh hR3;have HEND:Hid (w3.heap[V]?=some (qB8 A N)∧w3.heap[A]?=some (χ ((laidAll l ws).length / 128) N C (.slice none 0 0) (nx calls1) (nk wn ws.length))∧w3.heap[C]?=some (.cells (enc (laidAll l ws)) 87)∧Kp [A,C] w w3):=⟨hV3,by rw[jG6 N ws l hs hws];exact hA3,hC3,((HK1.out.mono (by simp)).tr hK2).tr hK3⟩;clear hA3 hC3 hK3 hV3 hL2 hK2 hR1 hV1 hA1 hown1 hC1 hT1 HK1 hL3 hR3 hws hwc;go_wp2_with fail;have hK4:Kp [w.heap.size+1+1] w3 ((w3.setCell ⟨w.heap.size+1+1,0,none⟩ (.int .i64 X.b)).setCell ⟨w.heap.size+1+1,1,none⟩ (.int .u64 X.s)):=((Kp.refl _ _).sc _).sc _;have hR4:=ω (ω HR3.out 0 (.int .i64 X.b)) 1 (.int .u64 X.s);obtain⟨e1,e2,e3,e4⟩:=HEND.out;refine bodyPost_ret (results_cell_row results69 _ _ (w.heap.size+1+1) 78 #[.int .i64 X.b,.int .u64 X.s] (0,0) _ rfl hR4 underlying78 rfl (by kernel_rfl)) rfl ?_;have hVs:=ζ HD.out.hV;exact⟨rfl,⟨hK4.ho e1,⟨_,hK4.ho e2⟩,hK4.ho e3⟩,e4.trans hK4 (by simp;omega)⟩
theorem jR1(V A N C:Nat)(l:List UInt8)(wn:Int)(O:qF0)(hO:∀ (n b:Nat) (s:Int) (t:Tn n),O n b s t→b≤1000000∧0≤s)(hVA:V≠A)(hAC:C≠A)(hVC:V≠C)(hN:N≤1000)(hs:N*128≤l.length)(n:Nat)(h:HL)(L:Lnk (Tn n))(fr:List Nat)(v:Value)(w:World)(hd:Devl V A N C l wn w)(hr:RL O n w h L)(ho:OkL n L)(hn:news n L≤fr.length)(hf:∀ b∈fr,b<N)(hl:fr.length≤10000)(hv:Slc w 3 1 v fr.length (qG8 fr))(hws:∀ x∈(qA0 n L fr).2.1,x.1<N∧x.2.length=128):
  Calls prog 69 #[φ V h,v] w fun e w'=>e=.returned (.agg #[.int .i64 (lhl (qA0 n L fr).1).b,.int .u64 (lhl (qA0 n L fr).1).s])∧Devl V A N C (laidAll l (qA0 n L fr).2.1) (nk wn (qA0 n L fr).2.1.length) w'∧Kp [A,C] w w':=by
 have hwc:=qX5 n L fr;refine xH8 V A N C l wn hVA hAC hVC hN hs h (lhl (qA0 n L fr).1) fr (qA0 n L fr).2.1 v w hd hv hws (by omega) rfl ?_;intro F w0 hK0 hy;refine (zX3 wn V A N C w0.heap.size F O hO hVA hN n h h L fr [] w0 hy (RL.keep hr hK0 (Apt.nil _ _)) ho hn hf (by simp;omega)).mono ?_;rintro e w1 ⟨rfl,hy1,hW1⟩;exact⟨rfl,⟨_,by simpa using hy1⟩,hW1⟩
theorem jR0(V A N C:Nat)(l:List UInt8)(wn:Int)(hVA:V≠A)(hAC:C≠A)(hVC:V≠C)(hN:N≤1000)(hs:N*128≤l.length)(fr:List Nat)(v:Value)(w:World)(hd:Devl V A N C l wn w)(hv:Slc w 3 1 v fr.length (qG8 fr)):
  Calls prog 69 #[φ V ⟨⟨#[]⟩,0,0,none⟩,v] w fun e w'=>e=.returned (.agg #[.int .i64 0,.int .u64 0])∧Devl V A N C l wn w'∧Kp [A,C] w w':=by
 refine xH8 V A N C l wn hVA hAC hVC hN hs ⟨⟨#[]⟩,0,0,none⟩ ⟨⟨#[]⟩,0,0,none⟩ fr [] v w hd hv (by simp) (by simp) rfl ?_;intro F w0 hK0 hy;refine (zJ1 V _ ⟨⟨#[]⟩,0,0,none⟩ (qQ2 F) w0 rfl).mono ?_;rintro e w1 ⟨rfl,hK⟩;exact⟨rfl,⟨_,hy.keep hK⟩,Wx.ofKp (hK.mono (by simp)) hy.low⟩
end Go.Proofs.YtdohpenfkdckiabGreatDoor
