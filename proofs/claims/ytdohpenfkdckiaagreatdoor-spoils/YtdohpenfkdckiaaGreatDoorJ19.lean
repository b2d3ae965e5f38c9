import Derived.Test.YtdohpenfkdckiaaGreatDoorJ17
set_option linter.all false
set_option maxRecDepth 100000
set_option maxHeartbeats 20000000
namespace Go.Proofs.YtdohpenfkdckiaaGreatDoor
open Go.Proofs.Tryz
open Go.RowKit
def lhl{X:Type}(l:Lnk X):HL:=⟨l.key,((l.ref.getD (0,0)).1:Int),(l.ref.getD (0,0)).2,none⟩
def qB4{X:Type}(f:Lnk X→List Nat→Lnk X × List (Nat × List UInt8) × List Nat):List (Lnk X)→List Nat→List (Lnk X) × List (Nat × List UInt8) × List Nat
 | [],fr=>([],[],fr)
 | l::ls,fr=>((f l fr).1::(qB4 f ls (f l fr).2.2).1,(f l fr).2.1++(qB4 f ls (f l fr).2.2).2.1,(qB4 f ls (f l fr).2.2).2.2)
def qA0:(n:Nat)→Lnk (Tn n)→List Nat→Lnk (Tn n) × List (Nat × List UInt8) × List Nat
 | 0,l,fr=>if l.ref.isSome then (l,[],fr) else (⟨l.key,some (fr.headD 0,fnv (qA3 0 (prs l.sub) [])),l.sub⟩,[(fr.headD 0,toB (qA3 0 (prs l.sub) []))],fr.tail)
 | n+1,l,fr=>if l.ref.isSome then (l,[],fr) else
   let r:=qB4 (qA0 n) (η l.sub) fr
   (⟨l.key,some (r.2.2.headD 0,fnv (qA3 ((n+1:Nat):Int) [] (r.1.map lhl))),r.1⟩,r.2.1++[(r.2.2.headD 0,toB (qA3 ((n+1:Nat):Int) [] (r.1.map lhl)))],r.2.2.tail)
theorem xH6{X:Type}(f:Lnk X->List Nat->Lnk X × List (Nat × List UInt8) × List Nat):∀ (a:List (Lnk X)) (l:Lnk X) (fr),
  qB4 f (a++[l]) fr=((qB4 f a fr).1++[(f l (qB4 f a fr).2.2).1],(qB4 f a fr).2.1++(f l (qB4 f a fr).2.2).2.1,(f l (qB4 f a fr).2.2).2.2)
 | [],l,fr=>by simp[qB4]
 | x::a,l,fr=>by
  have h:=xH6 f a l (f x fr).2.2;simp only[cA,qB4,h,aA]
theorem qQ8{X:Type}(f:Lnk X->List Nat->Lnk X × List (Nat × List UInt8) × List Nat)(g:Lnk X->Nat):∀ (ls:List (Lnk X)) (a:List Nat),(∀ l∈ls,∀ a,(f l a).2.2=a.drop (g l))->(qB4 f ls a).2.2=a.drop (meas g ls)
 | [],a,_=>by simp[qB4,qD1]
 | l::ls,a,h=>by
  simp only[qB4];rw[qQ8 f g ls _ (λx b=>h x (by simp[b])),h l sM,List.drop_drop,qC2]
theorem qO8:∀ (n:Nat) (l:Lnk (Tn n)) (a:List Nat),(qA0 n l a).2.2=a.drop (news n l)
 | 0,l,a=>by
  simp only[qA0,news];split<;>simp
 | n+1,l,a=>by
  simp only[qA0,news];split
  .simp
  .simp only;rw[qQ8 (qA0 n) (news n) _ a (λl _ a=>qO8 n l a),<-List.drop_one,List.drop_drop]
   congr 1
   exact Nat.add_comm _ _
structure Wx(base:Nat)(S:List Nat)(w w':World):Prop where
 os:w'.os=w.os
 tape:w'.tape=w.tape
 output:w'.output=w.output
 size:w.heap.size≤w'.heap.size
 low:∀ k,k<base→k ∉ S→w'.heap[k]?=w.heap[k]?
 oth:∀ (k:Nat) (c:Array Value) (t:TypeId) (fr:Nat × Nat),w.heap[k]?=some (.cells c t fr)→t≠117→k ∉ S→w'.heap[k]?=some (.cells c t fr)
theorem Wx.trans{base:Nat}{S}{a b c}(h:Wx base S a b)(k:Wx base S b c):Wx base S a c:=
 ⟨k.os.trans h.os,k.tape.trans h.tape,k.output.trans h.output,lT h.size k.size,λq d f=>(k.low q d f).trans (h.low q d f),λq c t fr e d f=>k.oth q c t fr (h.oth q c t fr e d f) d f⟩
theorem Wx.ofKp{base:Nat}{S}{a b}(h:Kp S a b)(g:base<=a.heap.size):Wx base S a b:=
 ⟨h.os,h.tape,h.output,h.size,λk f d=>h.block k oM d,λk c t fr e f d=>h.heap e d⟩
theorem Wx.of{base A:Nat}{S}{a b}(h:Wr base A a b)(g:A∈S):Wx base S a b:=
 ⟨h.os,h.tape,h.output,h.size,λk d f=>h.low k d (λe=>f (e ▸ g)),λk c t fr e d f=>h.oth k c t fr e d (λe=>f (e ▸ g))⟩
theorem Wx.tail{base:Nat}{a w w'}{S T}(h:Wx base S a w)(hK:Kp T w w')(g:∀ k∈T,a.heap.size<=k)(j:base<=a.heap.size):Wx base S a w':=
 ⟨hK.os.trans h.os,hK.tape.trans h.tape,hK.output.trans h.output,lT h.size hK.size,λk b d=>(hK.block k (by have:=h.size;omega) (λf=>by have:=g k f;omega)).trans (h.low k b d),λk c t i e b d=>hK.heap (h.oth k c t i e b d) (λf=>by have:=g k f;have:=ζ e;omega)⟩
def qH6(fr:List Nat):List Value:=fr.map (fun (b:Nat)=>Value.int .i64 (b:Int))
theorem jV6(F b:Nat)(fr)(v)(w)(d:w.heap[F]?=some (.cells #[v] 24))(r:Slc w 3 1 v (b::fr).length (qH6 (b::fr)))(K:fr.length<=100000):
  Calls prog 175 #[.pointer (some ⟨F,0,none⟩)] w λe c=>e=.returned (.int .i64 b)/\∃ v',c.heap[F]?=some (.cells #[v'] 24)/\Slc c 3 1 v' fr.length (qH6 fr)/\Kp [F] w c:=by
 rcases r.val with⟨y,_⟩|⟨g,a,cap,cur,t,rfl,I,z,f,l⟩
 .simp at y
 have c0:=ϻ d 0;have H:=ψ d 0;have J:=ζ d;have G:w.cell? ⟨g,a,none⟩=some (ϊ (b:Int)):=by
  rw[ξ f];exact l 0 _ (by simp[qH6])
 have B:g≠F:=by intro e;subst e;rw[d] at f;simp at f
 obtain⟨m,i⟩:=eX ((b::fr).length);rw[<-i] at z c0;have L:(0:Int)<(m:Int):=oM
 have M:¬(m:Int)<1:=oM
 have N:(1:Int)<=(m:Int):=oM
 have k:Hid (m=fr.length+1):=by show _=_;rw[i];simp
 have n:Hid (Ϙ w F (.cells #[.slice (some ⟨g,a,none⟩) m cap] 24)):=by rw[i];exact d
 have p:=zh (n2 f l);have C:g ∉ [F]:=by simpa using B
 have q:Hid (∀ o:Nat,(o=a+1\/fr=[])->∀ c,Kp [F] w c->Slc c 3 1 (.slice (some ⟨g,o,none⟩) (m-1) (cap-1)) fr.length (qH6 fr)):=by
  intro o D c hK;have s:m-1=fr.length:=by have:=k.out;omega
  rw[s];refine⟨by simp[qH6],?_⟩
  cases fr with
  | nil=>exact Or.inl ⟨rfl,_,_,rfl,sM⟩
  | cons x fr=>
   rcases D with rfl|h
   .refine Or.inr ⟨g,a+1,cap-1,cur,t,rfl,sM,by have:=k.out;simp at this |-;omega,hK.heap p.1 C,λj u E=>?_⟩;have h:=p.out.2 (j+1) u (by simpa [qH6] using E);rw[show a+1+j=a+(j+1) from by omega];exact h
   .cases h
 clear d r i f l;go_enter func175,ntmps175;go_wp2
 .go_ret;have hK:Kp [F] w (w.setCell ⟨F,0,none⟩ (.slice (some ⟨g,a,none⟩) (m-1) 0)):=kF.sc _;have A:cap=1:=by first | assumption | omega
  have h:=q.out a (Or.inr (List.eq_nil_of_length_eq_zero (by have:=k.out;omega))) _ hK;rw[A] at h;exact⟨rfl,_,μ n 0 _,h,hK⟩
 .go_ret;have hK:Kp [F] w (w.setCell ⟨F,0,none⟩ (.slice (some ⟨g,a+1,none⟩) (m-1) (cap-1))):=kF.sc _;exact⟨rfl,_,μ n 0 _,q (a+1) (Or.inl rfl) _ hK,hK⟩
variable {κ:Nat}
theorem qY0(w)(a b c):∃ d,d=((w.alloc a).alloc b).alloc c/\d.heap[w.heap.size]?=some a/\d.heap[w.heap.size+1]?=some b/\d.heap[w.heap.size+1+1]?=some c/\Kp [] w d/\d.heap.size=w.heap.size+3:=
 ⟨_,rfl,ρ _ (ρ _ (υ _ _)),ρ _ (by simpa using υ (w.alloc a) b),by simpa using υ ((w.alloc a).alloc b) c,((kF.alloc _).alloc _).alloc _,sM⟩
theorem zZ5(args)(W):Sem.run prog (callFunc 175 args) W=.ok (.enter 175 args) W:=by
 simp[go_sem,func175]
structure Ly(κ:Nat)(wn:Int)(V A N C base F:Nat)(ws:List (Nat × List UInt8))(fr:List Nat)(w:World):Prop where
 hV:w.heap[V]?=some (qE4 A N)
 hA:∃ v calls,w.heap[A]?=some (qA6 κ N C v calls (nk wn ws.length))∧w.ownsRow base 117 129 v ws.length (ws.flatMap wcs)
 hF:∃ vf,w.heap[F]?=some (.cells #[vf] 24)∧Slc w 3 1 vf fr.length (qH6 fr)
 low:base≤w.heap.size
theorem Ly.keep{a:Int}{V A N C base F:Nat}{ws}{fr}{w w'}(h:Ly κ a V A N C base F ws fr w)(hK:Kp [] w w'):Ly κ a V A N C base F ws fr w':=by
 obtain⟨v,b,c,d⟩:=h.hA;obtain⟨g,e,f⟩:=h.hF;exact⟨hK.hp h.hV,⟨v,b,hK.hp c,qI5 d hK (Apt.nil _ _)⟩,⟨g,hK.hp e,f.keep0 hK⟩,lT h.low hK.size⟩
theorem Ly.turn{e:Int}{V A N C base F:Nat}{ws}{fr}{w w'}{S}(h:Ly κ e V A N C base F ws fr w)(hK:Kp S w w')(a:Apt w S [263,114,117,24,3]):Ly κ e V A N C base F ws fr w':=by
 obtain⟨v,f,c,g⟩:=h.hA;obtain⟨j,d,i⟩:=h.hF;exact⟨hK.heap h.hV (λb=>a _ b _ _ _ h.hV dC),⟨v,f,hK.heap c (λb=>a _ b _ _ _ c dC),qI5 g hK (a.sub dC)⟩,⟨j,hK.heap d (λb=>a _ b _ _ _ d dC),i.keep hK (a.sub dC)⟩,lT h.low hK.size⟩
theorem Ly.apt{g:Int}{V A N C base F:Nat}{ws}{fr}{w}(h:Ly κ g V A N C base F ws fr w):Apt w [A,F] qF1:=λq a c t f e=>by
 obtain⟨v,i,b,j⟩:=h.hA;obtain⟨l,d,k⟩:=h.hF;rcases List.mem_cons.1 a with rfl|a
 .rw[b] at e;cases e;decide
 .rw[mS a,d] at e;cases e;decide
theorem Slc.wx{base:Nat}{S}{w w'}{T}{sz:Nat}{v}{n:Nat}{cs:List Value}(h:Slc w T sz v n cs)(k:Wx base S w w')(j:T≠117)(i:Apt w S [T]):Slc w' T sz v n cs:=by
 refine⟨h.len,?_⟩;rcases h.val with h|⟨g,m,cap,cur,b,c,d,e,a,f⟩
 .exact .inl h
 .exact .inr ⟨g,m,cap,cur,b,c,d,e,k.oth _ _ _ _ a j (λl=>i g l _ _ _ a sM),f⟩
theorem RN.wx{O:qE8}{base:Nat}{S}{w w'}(c:Wx base S w w')(b:Apt w S qF1):∀ (n:Nat) (q:Nat) (t),RN O n w q t->RN O n w' q t
 | 0,q,t,h=>by
  obtain⟨j,a,d⟩:=h;exact⟨j,c.oth _ _ _ _ a dC (λe=>b q e _ _ _ a dC),d.wx c dC (b.sub dC)⟩
 | n+1,q,t,h=>by
  obtain⟨i,a,g,d,f⟩:=h;exact⟨i,c.oth _ _ _ _ a dC (λe=>b q e _ _ _ a dC),g,d.wx c dC (b.sub dC),f.mono λx y hr=>hr.mono (λq hq=>RN.wx c b n q _ hq) (λ_ _ h=>h)⟩
theorem Ly.next{k:Int}{V A N C base F b:Nat}{ws}{a}{w}(h:Ly κ k V A N C base F ws (b::a) w)(r:a.length<=100000):
  Calls prog 175 #[.pointer (some ⟨F,0,none⟩)] w λe g=>e=.returned (.int .i64 b)/\Ly κ k V A N C base F ws a g/\Wx base [A,F] w g:=by
 obtain⟨v,l,i,m⟩:=h.hA;obtain⟨x,j,n⟩:=h.hF;refine (jV6 F b a x w j n r).mono ?_;rintro e g ⟨rfl,u,o,p,hK⟩;have d:Apt w [F] [263,114,117]:=λq s c t a e=>by
  rw[mS s,j] at e;cases e;decide
 exact⟨rfl,⟨hK.heap h.hV (λf=>d _ f _ _ _ h.hV dC),⟨v,l,hK.heap i (λf=>d _ f _ _ _ i dC),qI5 m hK (d.sub dC)⟩,⟨u,o,p⟩,lT h.low hK.size⟩,Wx.ofKp (hK.mono sM) h.low⟩
theorem Ly.lay{f:Int}{V A N C base F i:Nat}{ws}{fr}{w}(h:Ly κ f V A N C base F ws fr w)(l:V≠A)(K:ws.length<=100000)(B:i<N)(y:N<=1000)
  (q:Nat) (a:Int) (vp vl) (ps) (hs) (H:w.heap[q]?=some (χ a vp vl)) (D:0<=a) (E:a<256)
  (J:Slc w 185 2 vp ps.length (qA4 ps)) (I:Slc w 87 4 vl hs.length (qA9 hs)) (G:2+meas θ ps+meas φ hs<=128) (z:ps.length+hs.length<=255)
  (M:∀ p∈ps,qC3 p) (L:∀ p∈hs,p.key.size<=8/\0<=p.b/\p.b<=1000000/\0<=p.s):
  Calls prog 240 #[.pointer (some ⟨q,0,none⟩),.pointer (some ⟨V,0,none⟩),.int .i64 i] w λe d=>e=.returned (.agg #[.int .i64 i,.int .u64 (fnv (qA3 a ps hs))])/\
   Ly κ f V A N C base F (ws++[(i,toB (qA3 a ps hs))]) fr d/\Wx base [A,F] w d:=by
 obtain⟨v,n,b,r⟩:=h.hA;obtain⟨U,j,k⟩:=h.hF;refine (jV7 V A N C base v ws n (nk f ws.length) i q a vp vl ps hs w H D E J I G z M L h.hV b r K h.low B y l).mono ?_;rintro e d ⟨rfl,T,s,t,c⟩;have x:F≠A:=by intro e;subst e;rw[j] at b;simp[qA6] at b
 refine⟨rfl,⟨c.oth _ _ _ _ h.hV dC l,⟨T,_,by rw[lA];exact t,s⟩,⟨U,c.oth _ _ _ _ j dC x,k.len,?_⟩,lT h.low c.size⟩,Wx.of c sM⟩;rcases k.val with u|⟨g,S,cap,cur,o,O,P,Q,m,R⟩
 .exact Or.inl u
 .exact Or.inr ⟨g,S,cap,cur,o,O,P,Q,c.oth _ _ _ _ m dC (by intro e;subst e;rw[m] at b;simp[qA6] at b),R⟩
variable {κ:Nat}
theorem zP7(V:Nat)(r h)(nf)(w)(c:h.p=none):
  Calls prog 174 #[τ V r,qC1 h,nf] w λe g=>e=.returned (qC1 h)/\Kp [] w g:=by
 have d:h.ptr=none:=by simp[HL.ptr,c]
 rw[τ,qC1,d];go_enter func174,ntmps174;go_wp2;obtain⟨i,f,_,_,b,a,_⟩:=qY0 w (.cells (ϟ V r) 89) (.cells #[.string h.key,ϊ h.b,.int .u64 h.s,.pointer none] 87) (.cells #[.string h.key,ϊ h.b,.int .u64 h.s,.pointer none] 87);rw[<-f];exact bodyPost_ret (results_cell_row results174 _ _ (w.heap.size+1+1) 87 #[.string h.key,ϊ h.b,.int .u64 h.s,.pointer none] (0,0) _ rfl b underlying87 rfl kR) rfl ⟨rfl,a⟩
theorem jR9(wn:Int)(V A N C base F:Nat)(ws:List (Nat × List UInt8))(M:List Nat)(b:Nat)(r h:HL)(q:Nat)(O:qE8)(L:Lnk (Tn 0))(w:World)(hy:Ly κ wn V A N C base F ws (b::M) w)(be:V≠A)(bc:N<=1000)(hb:b<N)(bj:ws.length<=100000)(bg:M.length<=100000)(hp:h.p=some q)(l:RN O 0 w q L.sub)
  (hz:∀ p∈prs L.sub,qC3 p) (hm:2+meas θ (prs L.sub)<=128) (hn:(prs L.sub).length<=126):
  Calls prog 174 #[τ V r,qC1 h,.func (.func 175) #[] #[.pointer (some ⟨F,0,none⟩)]] w λe w'=>e=.returned (qC1 ⟨h.key,(b:Int),fnv (qA3 0 (prs L.sub) []),none⟩)/\
   Ly κ wn V A N C base F (ws++[(b,toB (qA3 0 (prs L.sub) []))]) M w'/\Wx base [A,F] w w':=by
 obtain⟨vp,l,T⟩:=l;obtain⟨m,n,rfl⟩:=qK2 T;obtain⟨o,R⟩:=eX ((prs L.sub).length);obtain⟨g,ac⟩:∃ g:Int,g=0:=⟨_,rfl⟩;obtain⟨vl,ae⟩:=eX (Value.slice none 0 0);rw[<-ac,<-ae,<-R] at l;rw[<-R] at T;have u:=zh (n3 R ac ae);have a7:=zh T;clear R ac ae T;have HQ:=zh l;have bm:=ζ l;have z:=zh hy;have aw:h.ptr=some ⟨q,0,none⟩:=by simp[HL.ptr,hp]
 rw[τ,qC1,aw];clear l hy hp aw;go_enter func174,ntmps174;go_wp2_with fail;obtain⟨J,af,ap,ak,ab,aa,ad⟩:=qY0 w (.cells (ϟ V r) 89) (.cells #[.string h.key,ϊ h.b,.int .u64 h.s,ϖ q] 87) (.cells qK3 87);unfold qK3 at ab af;rw[<-af];clear af;have f:J.drew.heap[w.heap.size+1]?=some (.cells #[.string h.key,ϊ h.b,.int .u64 h.s,ϖ q] 87)/\Ϙ J.drew q (χ g (.slice m o n) vl):=⟨ak,aa.hp HQ⟩;refine wp_region_held_drew (S:=λW=>W.heap[w.heap.size+1]?=some (.cells #[.string h.key,ϊ h.b,.int .u64 h.s,ϖ q] 87)/\Ϙ W q (χ g (.slice m o n) vl)) kR f (λ_=>?_);refine zU 0 (.pointer (some ⟨w.heap.size+1,3,none⟩)) f ?_;refine zV 1 (ϖ q) rfl (λW d=>by have a:=ϻ d.1 3;clear d;go_simp) f ?_;refine zV 2 (ϖ q) rfl (λW d=>by have c:=ζ d.2;clear d;go_simp) f ?_;refine zP 3 q 0 f ?_;refine zV 4 (ϊ g) rfl (λW d=>by have a:=ξ d.2 0;simp only[χ,zG,zH,zI] at a;clear d;go_simp) f ?_;refine zU 5 (.pointer (some ⟨w.heap.size+1,3,none⟩)) f ?_;refine zV 6 (ϖ q) rfl (λW d=>by have a:=ϻ d.1 3;clear d;go_simp) f ?_;refine zV 7 (ϖ q) rfl (λW d=>by have c:=ζ d.2;clear d;go_simp) f ?_;refine zP 8 q 1 f ?_;refine zV 9 (.slice m o n) rfl (λW d=>by have a:=ξ d.2 1;simp only[χ,zG,zH,zI] at a;clear d;go_simp) f ?_;refine zU 10 (.agg #[ϊ g,.slice m o n,.slice none 0 0]) f ?_;refine zq 11 λK hK=>?_;go_simp;obtain⟨s,ag,G,D⟩:∃ s,s=(J.alloc (.cells #[ϊ 0,.slice none 0 0,.slice none 0 0] 213)).drew/\s.heap[w.heap.size+3]?=some (.cells #[ϊ 0,.slice none 0 0,.slice none 0 0] 213)/\Kp [] J s:=⟨_,rfl,by rw[<-ad];exact υ J _,(kF.alloc _).drew⟩;rw[<-ag];have bh:s.heap.size=w.heap.size+4:=by rw[ag];simp[ad]
 clear ag;refine hK.out _ _ ⟨D.hp f.1,D.hp f.2⟩ (λ_=>?_)
 try simp only[zZ]
 refine zq 12 λK hK=>?_;have z0:=ξ G;have Y:=ψ G;have bb:=ζ G;have ah:=zh G;clear G;go_simp;obtain⟨i,ay,al,P⟩:∃ i,i=((s.setCell ⟨w.heap.size+3,0,none⟩ (ϊ g)).setCell ⟨w.heap.size+3,1,none⟩ (.slice m o n)).setCell ⟨w.heap.size+3,2,none⟩ (.slice none 0 0)/\i.heap[w.heap.size+3]?=some (χ g (.slice m o n) (.slice none 0 0))/\Kp [w.heap.size+3] s i:=
  ⟨_,rfl,μ (μ (μ ah 0 _) 1 _) 2 _,((kF.sc _).sc _).sc _⟩
 rw[<-ay];clear ay z0 Y;have aj:=(aa.tr D).tr P;have B:=D.trans P sO;have y:=And.intro (B.hp f.1) (B.hp f.2);refine hK.out _ _ y (λ_=>?_);refine zd ?_
 try simp only[zZ]
 have bo:w.heap.size+4<=i.heap.size:=by have:=P.size;omega
 have aq:=B.hp ap;have am:=B.hp ab;have l3:=ξ y.1 3;have q2:=ξ y.2 2;simp only[χ,zG,zH,zI] at l3 q2;have a2:=zh y.1;have a8:=zh aq;have a5:=zh am;have a3:=zh al;have U:=zh aj;have bn:=ζ y.2;clear f y aq am al aj B P D aa ap ak ab ah bb bh ad;rw[u.out.2.2] at q2;have bk:A<w.heap.size:=by obtain⟨v,c1,Z,_⟩:=z.out.hA;exact ζ Z
 have bl:F<w.heap.size:=by obtain⟨vf,Z,_⟩:=z.out.hF;exact ζ Z
 go_wp2_with fail;refine wp_loop_rounds 1 ?_;rw[rounds_succ];go_wp2_with fail;have X:=zh (z.keep U);have av:=u.out.1;have a4:=zh av;clear av;have j:i.drew.heap[w.heap.size+1]?=some (.cells #[.string h.key,ϊ h.b,.int .u64 h.s,ϖ q] 87)/\Ϙ i.drew w.heap.size (.cells (ϟ V r) 89):=⟨a2,a8⟩;refine wp_region_held_drew (S:=λW=>W.heap[w.heap.size+1]?=some (.cells #[.string h.key,ϊ h.b,.int .u64 h.s,ϖ q] 87)/\Ϙ W w.heap.size (.cells (ϟ V r) 89)) kR j (λ_=>?_);refine zU 0 (ϖ (w.heap.size+1)) j ?_;refine zV 1 (.string h.key) rfl (λW d=>by have a:=ϻ d.1 0;clear d;go_simp) j ?_;refine zP 2 w.heap.size 0 j ?_;refine zV 3 (ϖ V) rfl (λW d=>by have a:=ϻ d.2 0;clear d;go_simp) j ?_;refine zU 4 (.func (.func 175) #[] #[ϖ F]) j ?_;refine zq 5 λK hK=>?_;have bf:=zZ5;go_simp;refine ((X.keep ((Kp.refl _ i).drew)).next bg).mono ?_;rintro e w3 ⟨rfl,a0,k⟩;have Q:=And.intro (k.oth _ _ _ _ j.1 dC sO) (k.oth _ _ _ _ j.2 dC sO);have an:=k.oth _ _ _ _ a5 dC sO;have ax:=k.oth _ _ _ _ a3 dC sO;have bp:=k.size;have bi:=((a7.keep0 U).keep0 ((Kp.refl _ i).drew)).wx k dC ((X.keep ((Kp.refl _ i).drew)).apt.sub dC);refine hK.out _ _ Q (λ_=>?_);clear hK K bf
 try simp only[zZ]
 refine zq 6 λK hK=>?_;go_simp;refine (a0.lay be bj hb bc (w.heap.size+3) g (.slice m o n) (.slice none 0 0) (prs L.sub) [] ax (by have:=u.out;omega) (by have:=u.out;omega) (by have h:=bi;rw[a4.out] at h |-;exact h) ⟨rfl,Or.inl ⟨rfl,none,0,rfl,λ_=>rfl⟩⟩ (by simpa [qD1] using hm) sO hz sM).mono ?_;rintro e w4 ⟨rfl,a1,I⟩;have H:=And.intro (I.oth _ _ _ _ Q.1 dC sO) (I.oth _ _ _ _ Q.2 dC sO);have x:=I.oth _ _ _ _ an dC sO;refine zk hK H ?_
 refine zU 7 (.agg #[.string h.key,ϊ b,.int .u64 (fnv (qA3 g (prs L.sub) [])),.pointer none]) H ?_;refine zq 8 λK hK=>?_;have z0:=ξ x;have Y:=ψ x;have bd:=ζ x;have au:=qU0 (.string h.key) (ϊ (b:Int)) (.int .u64 (fnv (qA3 g (prs L.sub) []))) (.pointer none) x;have ai:=zh x;clear x;go_simp;obtain⟨w5,az,ao,E⟩:=gE au;rw[<-az];clear az au z0 Y;refine hK.out _ _ ⟨E.hp H.1,E.ho H.2⟩ (λ_=>?_);refine zd ?_
 try simp only[zZ]
 have ar:Apt w4 [w.heap.size+1+1] [263,114,117,24,3]:=λq l c t M e=>by rw[mS l,ai.out] at e;cases e;decide
 have ba:=zh (a1.turn E ar);have a9:=zh (((Wx.ofKp (U.mono sM) z.low).trans (((Wx.ofKp (Kp.mono (S:=[]) ((Kp.refl _ i).drew) sM) X.low).trans k).trans I)).tail E sO z.low);have a6:=zh ao;clear j Q H an ax a0 k a1 I ao E ar ai bd;go_wp2_with fail;exact bodyPost_ret (results_cell_row results174 _ _ (w.heap.size+1+1) 87 #[.string h.key,ϊ (b:Int),.int .u64 (fnv (qA3 g (prs L.sub) [])),.pointer none] (0,0) _ rfl a6 underlying87 rfl kR) rfl ⟨by simp only[qC1,HL.ptr,u.out.2.1,Option.map_none],by have h:=ba.out;rw[u.out.2.1] at h;exact h,a9⟩
variable {κ:Nat}
def OkL:(n:Nat)→Lnk (Tn n)→Prop
 | 0,l=>l.key.size≤8∧(l.ref=none→(∀ p∈prs l.sub,qC3 p)∧2+meas θ (prs l.sub)≤128∧(prs l.sub).length≤126)
 | n+1,l=>l.key.size≤8∧(l.ref=none→n+1<256∧(∀ m∈η l.sub,OkL n m)∧2+meas qA2 (η l.sub)≤128∧(η l.sub).length≤126)
def qR4(F:Nat):Value:=.func (.func 175) #[] #[.pointer (some ⟨F,0,none⟩)]
def qX8(κ:Nat)(wn:Int)(V A N C base F:Nat)(O:qE8)(n:Nat):Prop:=∀ (h r:HL) (L:Lnk (Tn n)) (fr:List Nat) (ws:List (Nat × List UInt8)) (w:World),Ly κ wn V A N C base F ws fr w→RL O n w h L→OkL n L→news n L≤fr.length→(∀ b∈fr,b<N)→ws.length+fr.length≤100000→
 Calls prog 174 #[τ V r,qC1 h,qR4 F] w fun e w'=>e=.returned (qC1 (lhl (qA0 n L fr).1))∧Ly κ wn V A N C base F (ws++(qA0 n L fr).2.1) (qA0 n L fr).2.2 w'∧Wx base [A,F] w w'
theorem zR4{X:Type}{N:Nat->X->Prop}{O:Nat->Int->X->Prop}{h}{l:Lnk X}(g:RLof N O h l)(f:l.ref.isSome):h.p=none/\h=lhl l:=by
 obtain⟨d,e⟩:=g
 cases hx:l.ref with
 | none=>rw[hx] at f;cases f
 | some x=>
  rw[hx] at e;obtain⟨b,c,a,_⟩:=e;refine⟨a,?_⟩;cases h;simp only at d b c a;subst d b c a;simp[lhl,hx]
theorem zQ7{X:Type}{N:Nat->X->Prop}{O:Nat->Int->X->Prop}{h}{l:Lnk X}(f:RLof N O h l)(e:l.ref=none):h.key=l.key/\∃ q,h.p=some q/\N q l.sub:=by
 obtain⟨d,a⟩:=f;rw[e] at a;obtain⟨_,_,q,b,c⟩:=a;exact⟨d,q,b,c⟩
theorem jS2(k:Int)(V A N C base F:Nat)(O:qE8)(p:V≠A)(o:N<=1000):qX8 κ k V A N C base F O 0:=by
 intro h r L a D w d i y f t v
 cases hx:L.ref with
 | some x=>
  have j:L.ref.isSome:=by rw[hx];rfl
  obtain⟨c,s⟩:=zR4 i j;have e:qA0 0 L a=(L,[],a):=by simp only[qA0,if_pos j]
  rw[e];refine (zP7 V r h (qR4 F) w c).mono ?_;rintro e B ⟨rfl,hK⟩;exact⟨by rw[<-s],by simpa using d.keep hK,Wx.ofKp (hK.mono sM) d.low⟩
 | none=>
  obtain⟨u,q,c,z⟩:=zQ7 i hx;have g:¬L.ref.isSome=true:=by rw[hx];simp
  have l:news 0 L=1:=by simp only[news,if_neg g]
  cases a with
  | nil=>rw[l] at f;simp at f
  | cons b a=>
   obtain⟨E,G,H⟩:=y.2 hx;have e:qA0 0 L (b::a)=(⟨L.key,some (b,fnv (qA3 0 (prs L.sub) [])),L.sub⟩,[(b,toB (qA3 0 (prs L.sub) []))],a):=by simp only[qA0,if_neg g,List.headD_cons,List.tail_cons]
   rw[e];refine (jR9 k V A N C base F D a b r h q O L w d p o (t b sM) oM (by simp at v;omega) c z E G H).mono ?_;rintro e B ⟨rfl,m,n⟩;exact⟨by simp only[lhl,u,Option.getD_some],m,n⟩
theorem jZ2{base b:Nat}{S}{w w'}{e}{sz:Nat}{v}{n:Nat}{xs:List Value}(h:w.ownsRow b e sz v n xs)(j:Wx base S w w')(k:e≠117)(i:Apt w S [e]):w'.ownsRow b e sz v n xs:=by
 refine⟨h.1,?_⟩;rcases h.2 with a|⟨g,cap,cur,a,d,c,f⟩
 .exact Or.inl a
 .exact Or.inr ⟨g,cap,cur,a,d,j.oth _ _ _ _ c k (λl=>i g l _ _ _ c sM),f⟩
theorem jZ0{w}{base:Nat}{e}{sz:Nat}{v}{n:Nat}{xs:List Value}{Ts:List TypeId}(h:w.ownsRow base e sz v n xs)(f:e ∉ Ts):Apt w v.ownBlock.toList Ts:=λq a c t i b=>by
 rcases h.2 with⟨rfl,_⟩|⟨g,cap,cur,rfl,_,d,_⟩
 .simp[Value.ownBlock] at a
 .simp only[Value.ownBlock,Option.toList_some,List.mem_singleton] at a;rw[a,d] at b;cases b;exact f
theorem zS0{w:World}{base:Nat}{e:TypeId}{sz:Nat}{v:Value}{n:Nat}{xs:List Value}(h:w.ownsRow base e sz v n xs):∀ k,v.ownBlock=some k->base<=k/\k<w.heap.size:=λk hk=>by
 refine⟨qI4 h k hk,?_⟩;rcases h.2 with⟨rfl,_⟩|⟨g,cap,cur,rfl,_,a,_⟩
 .simp[Value.ownBlock] at hk
 .simp only[Value.ownBlock,Option.some.injEq] at hk;rw[<-hk];exact ζ a
theorem zG8{X:Type}(f:Lnk X->List Nat->Lnk X × List (Nat × List UInt8) × List Nat)(g:Lnk X->Nat):∀ (ls:List (Lnk X)) (a:List Nat),(∀ l∈ls,∀ a,(f l a).2.1.length=g l)->(qB4 f ls a).2.1.length=meas g ls
 | [],a,_=>by simp[qB4,qD1]
 | l::ls,a,h=>by
  simp only[qB4,lA];rw[zG8 f g ls _ (λx b=>h x (by simp[b])),h l sM,qC2]
theorem qZ9:∀ (n:Nat) (l:Lnk (Tn n)) (a:List Nat),(qA0 n l a).2.1.length=news n l
 | 0,l,a=>by
  simp only[qA0,news];split<;>simp
 | n+1,l,a=>by
  simp only[qA0,news];split
  .simp
  .simp only[lA,lC,List.length_nil];rw[zG8 (qA0 n) (news n) _ a (λl _ a=>qZ9 n l a)];exact Nat.add_comm _ _
theorem xH7:∀ (n:Nat) (l:Lnk (Tn n)) (a:List Nat),(qA0 n l a).1.key=l.key
 | 0,l,a=>by
  simp only[qA0];split<;>rfl
 | n+1,l,a=>by
  simp only[qA0];split<;>rfl
theorem zP0{X:Type}(f:Lnk X->List Nat->Lnk X × List (Nat × List UInt8) × List Nat):∀ (ls:List (Lnk X)) (a:List Nat),(qB4 f ls a).1.length=ls.length
 | [],a=>rfl
 | l::ls,a=>by simp only[qB4,lC,zP0 f ls]
theorem zG9(n:Nat):∀ (ls:List (Lnk (Tn n))) (a:List Nat),meas φ ((qB4 (qA0 n) ls a).1.map lhl)=meas qA2 ls
 | [],a=>rfl
 | l::ls,a=>by
  simp only[qB4,List.map_cons,qC2,zG9 n ls];simp only[φ,qA2,lhl,xH7]
theorem jT0(N n:Nat)(o:N<=1000)(l)(a)(c:l.key.size<=8)(j:∀ x,l.ref=some x->x.1<=1000000/\0<=x.2)(f:∀ b∈a,b<N):(lhl (qA0 n l a).1).key.size<=8/\0<=(lhl (qA0 n l a).1).b/\(lhl (qA0 n l a).1).b<=1000000/\0<=(lhl (qA0 n l a).1).s:=by
 have e:∀ g:List Nat,(∀ b∈g,b<N)->g.headD 0<=1000000:=λg d=>by
  cases g with
  | nil=>simp
  | cons b g=>have:=d b sM;simp;omega
 have i:∀ (m:Lnk (Tn n)),m.key.size<=8->(∀ x,m.ref=some x->x.1<=1000000/\0<=x.2)->(lhl m).key.size<=8/\0<=(lhl m).b/\(lhl m).b<=1000000/\0<=(lhl m).s:=λm h1 h2=>by
  refine⟨h1,?_⟩;simp only[lhl]
  cases hm:m.ref with
  | none=>simp
  | some x=>have:=h2 x hm;simp only[Option.getD_some];omega
 have h:∀ (k:ByteArray) (t:Tn n) (b:Nat) (s:Int),k.size<=8->b<=1000000->0<=s->(lhl (⟨k,some (b,s),t⟩:Lnk (Tn n))).key.size<=8/\0<=(lhl (⟨k,some (b,s),t⟩:Lnk (Tn n))).b/\(lhl (⟨k,some (b,s),t⟩:Lnk (Tn n))).b<=1000000/\0<=(lhl (⟨k,some (b,s),t⟩:Lnk (Tn n))).s:=λk t b s h1 h2 h3=>⟨h1,by simp only[lhl,Option.getD_some];omega⟩
 cases n with
 | zero=>
  simp only[qA0];split
  .exact i l c j
  .exact h _ _ _ _ c (e a f) (qR3 _)
 | succ n=>
  simp only[qA0];split
  .exact i l c j
  .have d:∀ b∈(qB4 (qA0 n) (η l.sub) a).2.2,b<N:=λb hb=>by
    rw[qQ8 (qA0 n) (news n) _ a (λl _ a=>qO8 n l a)] at hb;exact f b (mD hb)
   exact h _ _ _ _ c (e _ d) (qR3 _)
theorem xJ5(N n:Nat)(d:N<=1000):∀ (ls:List (Lnk (Tn n))) (a:List Nat),(∀ l∈ls,l.key.size<=8/\∀ x,l.ref=some x->x.1<=1000000/\0<=x.2)->(∀ b∈a,b<N)->∀ p∈(qB4 (qA0 n) ls a).1.map lhl,p.key.size<=8/\0<=p.b/\p.b<=1000000/\0<=p.s
 | [],a,_,_=>by simp[qB4]
 | l::ls,a,h,hf=>by
  intro p c;simp only[qB4,List.map_cons,mC] at c;rcases c with rfl|c
  .exact jT0 N n d l a (h l sM).1 (h l sM).2 hf
  .exact xJ5 N n d ls _ (λx e=>h x (by simp[e])) (λb hb=>by rw[qO8] at hb;exact hf b (mD hb)) p c
variable {κ:Nat}
theorem jR8(wn:Int)(V A N C base F:Nat)(O:qE8)(hO:∀ (n b:Nat) (s:Int) (t:Tn n),O n b s t->b<=1000000/\0<=s)(n:Nat)(IH:qX8 κ wn V A N C base F O n)(hVA:V≠A)(hNN:N<=1000)(h r:HL)(q:Nat)(L:Lnk (Tn (n+1)))(b:Nat)(fr0 fr:List Nat)(ws:List (Nat × List UInt8))(w:World)
  (hy:Ly κ wn V A N C base F ws fr0 w) (hp:h.p=some q) (hq:RN O (n+1) w q L.sub) (hlv:n+1<256) (hok:∀ m∈η L.sub,OkL n m) (hm:2+meas qA2 (η L.sub)<=128) (hnl:(η L.sub).length<=126)
  (hn:meas (news n) (η L.sub)<=fr0.length) (hf:∀ b∈fr0,b<N) (hl:ws.length+fr0.length<=100000) (hfr:(qB4 (qA0 n) (η L.sub) fr0).2.2=b::fr):
  Calls prog 174 #[τ V r,qC1 h,qR4 F] w λe w'=>e=.returned (qC1 ⟨h.key,(b:Int),fnv (qA3 ((n+1:Nat):Int) [] ((qB4 (qA0 n) (η L.sub) fr0).1.map lhl)),none⟩)/\
   Ly κ wn V A N C base F (ws++(qB4 (qA0 n) (η L.sub) fr0).2.1++[(b,toB (qA3 ((n+1:Nat):Int) [] ((qB4 (qA0 n) (η L.sub) fr0).1.map lhl)))]) fr w'/\Wx base [A,F] w w':=by
 obtain⟨vl,hq,hs,hsl,hbo⟩:=hq;obtain⟨lb,lc,rfl⟩:=qK2 hsl;obtain⟨ln,hln⟩:=eX hs.length;obtain⟨pb,hpb⟩:∃ pb:Option Addr,pb=none:=⟨_,rfl⟩;obtain⟨pn,hpn⟩:=eX 0;obtain⟨pc,hpc⟩:=eX 0;obtain⟨lv,hlve⟩:∃ lv:Int,lv=((n+1:Nat):Int):=⟨_,rfl⟩;obtain⟨vl,hvl⟩:=eX (Value.slice lb ln lc);rw[<-hlve,<-hln,<-hvl] at hq;rw[<-hln] at hsl;have hq':Ϙ w q (χ lv (.slice pb pn pc) vl):=by rw[hpb,hpn,hpc];exact hq
 have HQ:=zh hq';have HPN:=zh (n6 hpb hpn hpc hlve hvl hln);have HSL:=zh hsl;have HBO:=zh hbo;have hqs:=ζ hq;have HY:=zh hy;have hptr:h.ptr=some ⟨q,0,none⟩:=by simp[HL.ptr,hp]
 rw[τ,qC1,hptr,qR4];obtain⟨R,hRe⟩:=eX (qB4 (qA0 n) (η L.sub) fr0);rw[<-hRe];have HRE:=zh (n2 hRe hfr);clear hq hq' hy hp hptr hpb hpn hpc hlve hvl hln hsl hbo hRe hfr;go_enter func174,ntmps174;go_wp2_with fail;obtain⟨w0,hw0,hT0,hL0,hR0,hK0,hs0⟩:=qY0 w (.cells (ϟ V r) 89) (.cells #[.string h.key,ϊ h.b,.int .u64 h.s,ϖ q] 87) (.cells qK3 87);unfold qK3 at hR0 hw0;rw[<-hw0];clear hw0;have hS0:w0.drew.heap[w.heap.size+1]?=some (.cells #[.string h.key,ϊ h.b,.int .u64 h.s,ϖ q] 87)/\Ϙ w0.drew q (χ lv (.slice pb pn pc) vl):=⟨hL0,hK0.hp HQ.out⟩;refine wp_region_held_drew (S:=λW=>W.heap[w.heap.size+1]?=some (.cells #[.string h.key,ϊ h.b,.int .u64 h.s,ϖ q] 87)/\Ϙ W q (χ lv (.slice pb pn pc) vl)) kR hS0 (λ_=>?_);refine zU 0 (.pointer (some ⟨w.heap.size+1,3,none⟩)) hS0 ?_;refine zV 1 (ϖ q) rfl (λW hS=>by have a:=ϻ hS.1 3;clear hS;go_simp) hS0 ?_;refine zV 2 (ϖ q) rfl (λW hS=>by have c:=ζ hS.2;clear hS;go_simp) hS0 ?_;refine zP 3 q 0 hS0 ?_;refine zV 4 (ϊ lv) rfl (λW hS=>by have a:=ξ hS.2 0;simp only[χ,zG,zH,zI] at a;clear hS;go_simp) hS0 ?_;refine zU 5 (.pointer (some ⟨w.heap.size+1,3,none⟩)) hS0 ?_;refine zV 6 (ϖ q) rfl (λW hS=>by have a:=ϻ hS.1 3;clear hS;go_simp) hS0 ?_;refine zV 7 (ϖ q) rfl (λW hS=>by have c:=ζ hS.2;clear hS;go_simp) hS0 ?_;refine zP 8 q 1 hS0 ?_;refine zV 9 (.slice pb pn pc) rfl (λW hS=>by have a:=ξ hS.2 1;simp only[χ,zG,zH,zI] at a;clear hS;go_simp) hS0 ?_;refine zU 10 (.agg #[ϊ lv,.slice pb pn pc,.slice none 0 0]) hS0 ?_;refine zq 11 λK hK=>?_;go_simp;obtain⟨w1,hw1,hN1,hK1⟩:∃ w1,w1=(w0.alloc (.cells #[ϊ 0,.slice none 0 0,.slice none 0 0] 213)).drew/\w1.heap[w.heap.size+3]?=some (.cells #[ϊ 0,.slice none 0 0,.slice none 0 0] 213)/\Kp [] w0 w1:=⟨_,rfl,by rw[<-hs0];exact υ w0 _,((Kp.refl _ _).alloc _).drew⟩;rw[<-hw1];have hs1:w1.heap.size=w.heap.size+4:=by rw[hw1];simp[hs0]
 clear hw1;refine hK.out _ _ ⟨hK1.hp hS0.1,hK1.hp hS0.2⟩ (λ_=>?_)
 try simp only[zZ]
 refine zq 12 λK hK=>?_;have z0:=ξ hN1;have f0:=ψ hN1;have hN1s:=ζ hN1;have HN1:=zh hN1;clear hN1;go_simp;obtain⟨w2,hw2,hN2,hK2⟩:∃ w2,w2=((w1.setCell ⟨w.heap.size+3,0,none⟩ (ϊ lv)).setCell ⟨w.heap.size+3,1,none⟩ (.slice pb pn pc)).setCell ⟨w.heap.size+3,2,none⟩ (.slice none 0 0)/\w2.heap[w.heap.size+3]?=some (χ lv (.slice pb pn pc) (.slice none 0 0))/\Kp [w.heap.size+3] w1 w2:=
  ⟨_,rfl,μ (μ (μ HN1.out 0 _) 1 _) 2 _,(((Kp.refl _ _).sc _).sc _).sc _⟩
 rw[<-hw2];clear hw2 z0 f0;have hKw2:=(hK0.tr hK1).tr hK2;have hK02:=hK1.trans hK2 sO;have hS2:=And.intro (hK02.hp hS0.1) (hK02.hp hS0.2);refine hK.out _ _ hS2 (λ_=>?_);refine zd ?_
 try simp only[zZ]
 have hs2:w.heap.size+4<=w2.heap.size:=by have:=hK2.size;omega
 have hT2:=hK02.hp hT0;have hR2:=hK02.hp hR0;have l3:=ξ hS2.1 3;have q2:=ξ hS2.2 2;simp only[χ,zG,zH,zI] at l3 q2;have HL2:=zh hS2.1;have HT2:=zh hT2;have HR2:=zh hR2;have HN2:=zh hN2;have HK2:=zh hKw2;have hqs2:=ζ hS2.2;clear hS0 hS2 hT2 hR2 hN2 hKw2 hK02 hK2 hK1 hK0 hT0 hL0 hR0 HN1 hN1s hs1 hs0;rw[HPN.out.2.2.2.2.1] at q2;have hAs:A<w.heap.size:=by obtain⟨v,c1,h1,_⟩:=HY.out.hA;exact ζ h1
 have hFs:F<w.heap.size:=by obtain⟨vf,h1,_⟩:=HY.out.hF;exact ζ h1
 have HY2:=zh (HY.out.keep HK2.out);have HW2:Hid (Wx base [A,F] w w2):=Wx.ofKp (HK2.out.mono sM) HY.out.low;go_wp2_with fail
 go_loopw [31] (λi wr=>∃ (j:Nat) (vj:Value),j<=ln/\i=.int .i64 j/\w.heap.size+4<=wr.heap.size/\Hid (wr.heap[w.heap.size+1]?=some (.cells #[.string h.key,ϊ h.b,.int .u64 h.s,ϖ q] 87))/\Hid (Ϙ wr w.heap.size (.cells (ϟ V r) 89))/\Hid (wr.heap[w.heap.size+1+1]?=some (.cells ϙ 87))/\Hid (wr.heap[w.heap.size+3]?=some (χ lv (.slice pb pn pc) vj))/\Hid (wr.ownsRow (w.heap.size+4) 87 4 vj j (qA9 ((qB4 (qA0 n) ((η L.sub).take j) fr0).1.map lhl)))/\Hid (Ly κ wn V A N C base F (ws++(qB4 (qA0 n) ((η L.sub).take j) fr0).2.1) (qB4 (qA0 n) ((η L.sub).take j) fr0).2.2 wr)/\Hid (Wx base [A,F] w wr)) (λi _=>ln-(intOf i).toNat)
 case atStart=>exact⟨0,.slice none 0 0,Nat.zero_le _,rfl,hs2,HL2,HT2,HR2,HN2,by show World.ownsRow _ _ _ _ _ _ _;exact World.ownsRow_nil _ _ _ _,by show Ly _ _ _ _ _ _ _ _ _ _ _;simpa [qB4] using HY2.out,HW2⟩
 case round=>
  obtain⟨j,vj,hj,rfl,hsw,HLr,HTr,HRr,HNr,HOr,HYr,HWr⟩:=hrel;clear l3 q2 HL2 HT2 HR2 HN2 HY2 HW2 hs2 hqs2;by_cases hlt:j<ln
  .have hjl:j<hs.length:=by have:=HPN.out;omega
   have hjm:j<(η L.sub).length:=by rw[<-HBO.out.1];exact hjl
   have hsl0:=HSL.out;rw[HPN.out.2.2.2.2.2] at hsl0;obtain⟨gb,off,cp',cur,fq,hv,hcp,hrow,hcur⟩:=hsl0.link oM;obtain⟨c0,c1,c2,c3⟩:=hcur j hjl;simp only[Value.slice.injEq,true_and] at hv;obtain⟨rfl,rfl⟩:=hv;have hap:=HY.out.apt;have hR:=HWr.out.oth _ _ _ _ hrow dC (λhm=>hap _ hm _ _ _ hrow dC);have a0:=ξ hR (off+j*4);have a1:=ξ hR (off+j*4+1);have a2:=ξ hR (off+j*4+2);have a3:=ξ hR (off+j*4+3);rw[c0] at a0;rw[c1] at a1;rw[c2] at a2;rw[c3] at a3;have hgs:=ζ hR;have hjb:(j:Int)<(ln:Int):=oM
   have HRL:Hid (RL O n wr hs[j] (η L.sub)[j]):=(HBO.out.2 j hjl hjm).mono (λq hq=>RN.wx HWr.out hap n q _ hq) (λ_ _ h=>h);clear hcur hsl0 hcp hap;go_wp2_with fail;rename_i K0 hK0;obtain⟨X,hX⟩:=eX (lhl (qA0 n (η L.sub)[j] (qB4 (qA0 n) ((η L.sub).take j) fr0).2.2).1);have hXp:X.ptr=none:=by rw[hX];rfl
   have hsn:=xH6 (qA0 n) ((η L.sub).take j) (η L.sub)[j] fr0;rw[<-List.take_succ_eq_append_getElem hjm] at hsn;have HSN:=zh hsn;have HX:=zh hX;obtain⟨w1,hw1,h91,hK1,hs1⟩:=qD5 wr (.cells #[.string hs[j].key,ϊ hs[j].b,.int .u64 hs[j].s,.pointer hs[j].ptr] 87);rw[<-hw1];clear hw1 hsn hX a0 a1 a2 a3 hR hrow c0 c1 c2 c3 hgs hjb;have hSd:Ϙ w1.drew w.heap.size (.cells (ϟ V r) 89)/\Ϙ w1.drew wr.heap.size (.cells #[.string hs[j].key,ϊ hs[j].b,.int .u64 hs[j].s,.pointer hs[j].ptr] 87):=⟨hK1.hp HTr.out,h91⟩;have hKd:=hK1.drew;have hNd:=hKd.hp HNr.out;have hYd:=HYr.out.keep hKd;have HCALL:Hid (Ω 174 #[τ V r,qC1 hs[j],qR4 F] w1.drew λe w'=>e=ϱ (.agg #[.string X.key,ϊ X.b,.int .u64 X.s,.pointer none])/\Ly κ wn V A N C base F (ws++(qB4 (qA0 n) ((η L.sub).take (j+1)) fr0).2.1) (qB4 (qA0 n) ((η L.sub).take (j+1)) fr0).2.2 w'/\Wx base [A,F] w1.drew w'):=by
    have hfree:=qQ8 (qA0 n) (news n) ((η L.sub).take j) fr0 (λl _ fr=>qO8 n l fr);have hcnt:=zG8 (qA0 n) (news n) ((η L.sub).take j) fr0 (λl _ fr=>qZ9 n l fr);have hmj:=zA6 (news n) (η L.sub) j hjm;refine (IH hs[j] r (η L.sub)[j] _ _ w1.drew hYd (RL.keep HRL.out hKd (Apt.nil _ _)) (hok _ (List.getElem_mem hjm)) (by rw[hfree,List.length_drop];omega) (λb hb=>hf b (by rw[hfree] at hb;exact List.mem_of_mem_drop hb)) (by rw[hfree,List.length_append,hcnt,List.length_drop];omega)).mono ?_;rintro e w' ⟨rfl,h1,h2⟩;rw[HSN.out,<-List.append_assoc];exact⟨by rw[<-HX.out,qC1,hXp],h1,h2⟩
   have HIN:=zh hKd;refine zJ1 (α:=Nat->Nat->Nat->Act) (R:=λA0=>∀ g c d W,(w.heap.size+4<=W.heap.size/\W.heap[w.heap.size+1]?=some (.cells #[.string h.key,ϊ h.b,.int .u64 h.s,ϖ q] 87)/\Ϙ W w.heap.size (.cells (ϟ V r) 89)/\W.heap[w.heap.size+1+1]?=some (.cells ϙ 87)/\W.heap[w.heap.size+3]?=some (χ lv (.slice pb pn pc) (.slice (some ⟨g,0,none⟩) (j+1) c))/\W.ownsRow (w.heap.size+4) 87 4 (.slice (some ⟨g,0,none⟩) (j+1) c) (j+1) (qA9 ((qB4 (qA0 n) ((η L.sub).take (j+1)) fr0).1.map lhl))/\Ly κ wn V A N C base F (ws++(qB4 (qA0 n) ((η L.sub).take (j+1)) fr0).2.1) (qB4 (qA0 n) ((η L.sub).take (j+1)) fr0).2.2 W/\Wx base [A,F] w W)->K0 (A0 g c d) W) ?_;apply Exists.intro;apply And.intro
   rotate_left
   .intro HREST;refine wp_region_held_drew (S:=λW=>Ϙ W w.heap.size (.cells (ϟ V r) 89)/\Ϙ W wr.heap.size (.cells #[.string hs[j].key,ϊ hs[j].b,.int .u64 hs[j].s,.pointer hs[j].ptr] 87)) kR hSd (λ_=>?_);refine zU 0 (.pointer (some ⟨w.heap.size+3,2,none⟩)) hSd ?_;refine zV 2 (.agg (ϟ V r)) rfl (λW hS=>by have a:=ξ hS.1;clear hS;go_simp) hSd ?_;refine zV 3 (.agg #[.string hs[j].key,ϊ hs[j].b,.int .u64 hs[j].s,.pointer hs[j].ptr]) rfl (λW hS=>by have a:=ξ hS.2;clear hS;go_simp) hSd ?_;refine zU 4 (.func (.func 175) #[] #[ϖ F]) hSd ?_;refine zr 1 5 (λK hK=>?_) λK hK=>?_
    focus
     have c2:=ξ hNd 2;simp only[χ,zG,zH,zI] at c2;go_simp;refine hK.out _ _ hSd (λ_=>?_);clear hK K c2
     try simp only[zZ]
     refine zq 5 λK hK=>?_;go_simp;refine (show Calls _ _ _ _ _ from HCALL.out).mono ?_;rintro e w2 ⟨rfl,hy2,hW2⟩;have hS2:=And.intro (hW2.oth _ _ _ _ hSd.1 dC sO) (hW2.oth _ _ _ _ hSd.2 dC sO);have hN2:=hW2.oth _ _ _ _ hNd dC sO;have hs2:w1.heap.size<=w2.heap.size:=hW2.size;refine zk hK hS2 ?_
     refine zq 6 λK hK=>?_;go_simp;obtain⟨w3,hw3,hB3,hK3,hs3⟩:=qD5 w2 (.cells #[.string X.key,ϊ X.b,.int .u64 X.s,.pointer none] 87);rw[<-hw3];clear hw3;obtain⟨d,hd⟩:=eX w2.heap.size;rw[<-hd] at hB3 |-;clear hd;have hS3:=And.intro (hK3.hp hS2.1) (hK3.hp hS2.2);have hN3:=hK3.hp hN2;refine zk hK hS3 ?_
    rotate_left
    focus
     go_simp;refine (show Calls _ _ _ _ _ from HCALL.out).mono ?_;rintro e w2 ⟨rfl,hy2,hW2⟩;have hS2:=And.intro (hW2.oth _ _ _ _ hSd.1 dC sO) (hW2.oth _ _ _ _ hSd.2 dC sO);have hN2:=hW2.oth _ _ _ _ hNd dC sO;have hs2:w1.heap.size<=w2.heap.size:=hW2.size;refine zk hK hS2 ?_
     refine zr 1 6 (λK hK=>?_) λK hK=>?_
     focus
      have c2:=ξ hN2 2;simp only[χ,zG,zH,zI] at c2;go_simp;refine hK.out _ _ hS2 (λ_=>?_);clear hK K c2
      try simp only[zZ]
      refine zq 6 λK hK=>?_;go_simp;obtain⟨w3,hw3,hB3,hK3,hs3⟩:=qD5 w2 (.cells #[.string X.key,ϊ X.b,.int .u64 X.s,.pointer none] 87);rw[<-hw3];clear hw3;obtain⟨d,hd⟩:=eX w2.heap.size;rw[<-hd] at hB3 |-;clear hd;have hS3:=And.intro (hK3.hp hS2.1) (hK3.hp hS2.2);have hN3:=hK3.hp hN2;refine zk hK hS3 ?_
     rotate_left
     focus
      go_simp;obtain⟨w3,hw3,hB3,hK3,hs3⟩:=qD5 w2 (.cells #[.string X.key,ϊ X.b,.int .u64 X.s,.pointer none] 87);rw[<-hw3];clear hw3;obtain⟨d,hd⟩:=eX w2.heap.size;rw[<-hd] at hB3 |-;clear hd;have hS3:=And.intro (hK3.hp hS2.1) (hK3.hp hS2.2);have hN3:=hK3.hp hN2;refine zk hK hS3 ?_
      refine zq 1 λK hK=>?_;have c2:=ξ hN3 2;simp only[χ,zG,zH,zI] at c2;go_simp;refine hK.out _ _ hS3 (λ_=>?_);clear hK K c2
      try simp only[zZ]
    all_goals
     have hownd:=qI5 HOr.out HIN.out (Apt.nil _ _);have hown3:=qI5 (jZ2 hownd hW2 dC (hYd.apt.sub dC)) hK3 (Apt.nil _ _);refine zq 7 λK hK=>?_;refine zB8 rfl rfl (.agg #[.string ⟨#[]⟩,ϊ 0,.int .u64 0,.pointer none]) 4 40 underlying156 qV8 rfl dC (w.heap.size+4) vj j _ (by simp[Act.eval]) hown3 d 0 1 1 #[.string X.key,ϊ X.b,.int .u64 X.s,.pointer none] 87 (0,0) (by simp[Act.eval]) hB3 sM (by simp[qB0,Value.oneCell']) oM oM oM ?_;intro v4 w4 hown4 hgr4 _;obtain⟨g1,cap1,rfl⟩:=qL7 (n:=j) hown4;have hKg:Kp vj.ownBlock.toList w3 w4:=(Kp.refl _ _).grown hgr4 (λk hk=>Or.inl (by simp[hk]));have hlo:∀ k,k<w.heap.size+4\/k=wr.heap.size->k ∉ vj.ownBlock.toList:=λk hk hm=>by
      have h1:=zS0 HOr.out k (by simpa using hm);omega
     have hS4:=And.intro (hKg.heap hS3.1 (hlo _ oM)) (hKg.heap hS3.2 (hlo _ (Or.inr rfl)));have hN4:=hKg.heap hN3 (hlo _ oM);have hN4s:=ζ hN4;refine zk hK hS4 ?_
     refine zU 8 (.pointer (some ⟨w.heap.size+3,2,none⟩)) hS4 ?_;refine zq 9 λK hK=>?_;have d2:=ξ hN4 2;simp only[χ,zG,zH,zI] at d2;have e2:=ψ hN4 2;go_simp;have hKs:Kp [w.heap.size+3] w4 (w4.setCell ⟨w.heap.size+3,2,none⟩ (.slice (some ⟨g1,0,none⟩) (j+1) cap1)):=(Kp.refl _ _).sc _;have hR5:=μ hN4 2 (.slice (some ⟨g1,0,none⟩) (j+1) cap1);have haN:∀ {Ts:List TypeId},213 ∉ Ts->Apt w4 [w.heap.size+3] Ts:=λhT q hq c t fr e=>by rw[List.mem_singleton.1 hq,hN4] at e;cases e;exact hT
     generalize w4.setCell ⟨w.heap.size+3,2,none⟩ (.slice (some ⟨g1,0,none⟩) (j+1) cap1)=w5 at hKs hR5 |-;refine hK.out _ _ ⟨hKs.hp hS4.1,hKs.ho hS4.2⟩ (λ_=>?_);clear hK K d2 e2;refine zd ?_
     try simp only[zZ]
     have hw5:=((((HWr.out.trans ((Wx.ofKp (HIN.out.mono sM) HYr.out.low).trans hW2)).tail hK3 sM HY.out.low).tail hKg (λk hk=>by have:=zS0 HOr.out k (by simpa using hk);omega) HY.out.low).tail hKs sM HY.out.low);have hy5:=((hy2.keep hK3).turn hKg (jZ0 hown3 dC)).turn hKs (haN dC);have hK35:∀ k c t fr,Ϙ w3 k (.cells c t fr)->k<w.heap.size+3->Ϙ w5 k (.cells c t fr):=λk c t fr e hk=>hKs.heap (hKg.heap e (hlo k oM)) sO;have hto:∀ k c t fr,Ϙ wr k (.cells c t fr)->t≠117->w.heap.size<=k->k<w.heap.size+3->Ϙ w5 k (.cells c t fr):=λk c t fr e ht h1 h2=>hK35 k c t fr (hK3.heap (hW2.oth _ _ _ _ (HIN.out.hp e) ht sO) sM) h2;show K0 _ w5;refine HREST g1 cap1 d w5 ⟨by have:=hKs.size;have:=hKg.size;omega,hto _ _ _ _ HLr.out dC oM oM,hto _ _ _ _ HTr.out dC oM oM,hto _ _ _ _ HRr.out dC oM oM,hR5,?_,hy5,hw5⟩;have e:qA9 ((qB4 (qA0 n) ((η L.sub).take (j+1)) fr0).1.map lhl)=qA9 ((qB4 (qA0 n) ((η L.sub).take j) fr0).1.map lhl)++(qB0 #[.string X.key,ϊ X.b,.int .u64 X.s,.pointer none] 0 (1*4)).toList:=by
      rw[HSN.out,List.map_append,List.map_cons,List.map_nil,<-HX.out];simp[qA9,lcs,qB0,hXp]
     rw[e];exact qI5 hown4 hKs (haN dC)
   rintro g c d W ⟨e1,e2,e3,e4,e5,e6,e7,e8⟩;refine hK0 _ _ ?_;have HE:Hid (w.heap.size+4<=W.heap.size/\W.heap[w.heap.size+1]?=some (.cells #[.string h.key,ϊ h.b,.int .u64 h.s,ϖ q] 87)/\Ϙ W w.heap.size (.cells (ϟ V r) 89)/\W.heap[w.heap.size+1+1]?=some (.cells ϙ 87)/\W.heap[w.heap.size+3]?=some (χ lv (.slice pb pn pc) (.slice (some ⟨g,0,none⟩) (j+1) c))/\W.ownsRow (w.heap.size+4) 87 4 (.slice (some ⟨g,0,none⟩) (j+1) c) (j+1) (qA9 ((qB4 (qA0 n) ((η L.sub).take (j+1)) fr0).1.map lhl))/\Ly κ wn V A N C base F (ws++(qB4 (qA0 n) ((η L.sub).take (j+1)) fr0).2.1) (qB4 (qA0 n) ((η L.sub).take (j+1)) fr0).2.2 W/\Wx base [A,F] w W):=⟨e1,e2,e3,e4,e5,e6,e7,e8⟩;clear e1 e2 e3 e4 e5 e6 e7 e8 hSd hKd hNd hYd h91 hK1 hK0 K0;go_wp2;exact⟨⟨j+1,_,oM,by go_num,HE.out.1,HE.out.2.1,HE.out.2.2.1,HE.out.2.2.2.1,HE.out.2.2.2.2.1,HE.out.2.2.2.2.2.1,HE.out.2.2.2.2.2.2.1,HE.out.2.2.2.2.2.2.2⟩,by simp[intOf];omega⟩
  .have hje:(η L.sub).take j=η L.sub:=List.take_of_length_le (by rw[<-HBO.out.1];have:=HPN.out;omega);have hjn:j=(η L.sub).length:=by rw[<-HBO.out.1];have:=HPN.out;omega
   have hjb:¬(j:Int)<(ln:Int):=oM
   have hfr:=HRE.out.2;have hRe:=HRE.out.1;have hOe:=HOr.out;have hYe:=HYr.out;rw[hje] at hOe hYe;rw[hfr] at hYe;have hb:=hf b (by have h:=qQ8 (qA0 n) (news n) (η L.sub) fr0 (λl _ fr=>qO8 n l fr);rw[hfr] at h;exact List.mem_of_mem_drop (h ▸ List.mem_cons_self));have hcnt:=zG8 (qA0 n) (news n) (η L.sub) fr0 (λl _ fr=>qZ9 n l fr);have hlen:=zP0 (qA0 n) (η L.sub) fr0;have hfl:fr.length<=100000:=by have h:=congrArg List.length (qQ8 (qA0 n) (news n) (η L.sub) fr0 (λl _ fr=>qO8 n l fr));rw[hfr] at h;simp at h;omega
   have hms:=zG9 n (η L.sub) fr0;have hzl:=xJ5 N n hNN (η L.sub) fr0 (λl hl=>by
    obtain⟨i,hi,rfl⟩:=List.getElem_of_mem hl;refine⟨by have h:=hok _ hl;cases n with | zero=>exact h.1 | succ n=>exact h.1,λx hx=>?_⟩;have h2:=(HBO.out.2 i (by rw[HBO.out.1];exact hi) hi).2;rw[hx] at h2;exact hO _ _ _ _ h2.2.2.2) hf
   rw[<-hRe] at hOe hYe hcnt hlen hms hzl;have hwl:(ws++R.2.1).length<=100000:=by rw[List.length_append,hcnt];omega
   have HYE:=zh hYe;have HOE:Hid (wr.ownsRow (w.heap.size+4) 87 4 vj (R.1.map lhl).length (qA9 (R.1.map lhl))):=by rw[List.length_map,hlen,<-hjn];exact hOe
   have HZL:=zh hzl;have HMS:Hid (2+meas θ []+meas φ (R.1.map lhl)<=128/\([]:List KV).length+(R.1.map lhl).length<=255):=⟨by rw[hms,qD1];omega,by rw[List.length_map,hlen];simp;omega⟩;clear hje hjn hOe hYe hcnt hlen hms hzl hfr hRe IH hok hm hn;go_wp2_with fail;have hSd:wr.drew.heap[w.heap.size+1]?=some (.cells #[.string h.key,ϊ h.b,.int .u64 h.s,ϖ q] 87)/\Ϙ wr.drew w.heap.size (.cells (ϟ V r) 89):=⟨HLr.out,HTr.out⟩;refine wp_region_held_drew (S:=λW=>W.heap[w.heap.size+1]?=some (.cells #[.string h.key,ϊ h.b,.int .u64 h.s,ϖ q] 87)/\Ϙ W w.heap.size (.cells (ϟ V r) 89)) kR hSd (λ_=>?_);refine zU 0 (ϖ (w.heap.size+1)) hSd ?_;refine zV 1 (.string h.key) rfl (λW hS=>by have a:=ϻ hS.1 0;clear hS;go_simp) hSd ?_;refine zP 2 w.heap.size 0 hSd ?_;refine zV 3 (ϖ V) rfl (λW hS=>by have a:=ϻ hS.2 0;clear hS;go_simp) hSd ?_;refine zU 4 (.func (.func 175) #[] #[ϖ F]) hSd ?_;refine zq 5 λK hK=>?_;have hcf:=zZ5;go_simp;refine ((HYE.out.keep ((Kp.refl _ wr).drew)).next hfl).mono ?_;rintro e w3 ⟨rfl,hy3,hW3⟩;have hS3:=And.intro (hW3.oth _ _ _ _ hSd.1 dC sO) (hW3.oth _ _ _ _ hSd.2 dC sO);have hR3:=hW3.oth _ _ _ _ HRr.out dC sO;have hq3:=hW3.oth _ _ _ _ HNr.out dC sO;have hs3:=hW3.size;have hsl3:=((qJ3 HOE.out).keep0 ((Kp.refl _ wr).drew)).wx hW3 dC ((HYE.out.keep ((Kp.refl _ wr).drew)).apt.sub dC);refine hK.out _ _ hS3 (λ_=>?_);clear hK K hcf
   try simp only[zZ]
   refine zq 6 λK hK=>?_;go_simp;refine (hy3.lay hVA hwl hb hNN (w.heap.size+3) lv (.slice pb pn pc) vj [] (R.1.map lhl) hq3 (by have:=HPN.out;omega) (by have:=HPN.out;omega) (by have e:=HPN.out;rw[e.1,e.2.1,e.2.2.1];exact⟨rfl,Or.inl ⟨rfl,none,0,rfl,λ_=>rfl⟩⟩) hsl3 HMS.out.1 HMS.out.2 sM HZL.out).mono ?_;rintro e w4 ⟨rfl,hy4,hW4⟩;have hS4:=And.intro (hW4.oth _ _ _ _ hS3.1 dC sO) (hW4.oth _ _ _ _ hS3.2 dC sO);have hR4:=hW4.oth _ _ _ _ hR3 dC sO;refine zk hK hS4 ?_
   refine zU 7 (.agg #[.string h.key,ϊ b,.int .u64 (fnv (qA3 lv [] (R.1.map lhl))),.pointer none]) hS4 ?_;refine zq 8 λK hK=>?_;have z0:=ξ hR4;have f0:=ψ hR4;have hR4s:=ζ hR4;have hls:=qU0 (.string h.key) (ϊ (b:Int)) (.int .u64 (fnv (qA3 lv [] (R.1.map lhl)))) (.pointer none) hR4;have HR4:=zh hR4;clear hR4;go_simp;obtain⟨w5,hw5,hR5,hK5⟩:=gE hls;rw[<-hw5];clear hw5 hls z0 f0;refine hK.out _ _ ⟨hK5.hp hS4.1,hK5.ho hS4.2⟩ (λ_=>?_);refine zd ?_
   try simp only[zZ]
   have hap:Apt w4 [w.heap.size+1+1] [263,114,117,24,3]:=λq hq c t fr e=>by rw[List.mem_singleton.1 hq,HR4.out] at e;cases e;decide
   have HY5:=zh (hy4.turn hK5 hap);have HW5:=zh (((HWr.out).trans (((Wx.ofKp (Kp.mono (S:=[]) ((Kp.refl _ wr).drew) sM) HYE.out.low).trans hW3).trans hW4)).tail hK5 sO HY.out.low);have HR5:=zh hR5;clear hSd hS3 hS4 hR3 hq3 hy3 hW3 hy4 hW4 hR5 hK5 hap HR4 hR4s;go_wp2_with fail;exact bodyPost_ret (results_cell_row results174 _ _ (w.heap.size+1+1) 87 #[.string h.key,ϊ (b:Int),.int .u64 (fnv (qA3 lv [] (R.1.map lhl))),.pointer none] (0,0) _ rfl HR5.out underlying87 rfl kR) rfl ⟨by simp only[qC1,HL.ptr,HPN.out.2.2.2.1,Option.map_none],by have h:=HY5.out;rw[HPN.out.2.2.2.1] at h;exact h,HW5.out⟩
variable {κ:Nat}
theorem jS1(g:Int)(V A N C base F:Nat)(O:qE8)(u:∀ (n b:Nat) (s:Int) (t),O n b s t->b<=1000000/\0<=s)(v:V≠A)(p:N<=1000)(n:Nat)(m:qX8 κ g V A N C base F O n):qX8 κ g V A N C base F O (n+1):=by
 intro h r L a J w f j G S z E
 cases hx:L.ref with
 | some x=>
  have k:L.ref.isSome:=by rw[hx];rfl
  obtain⟨d,y⟩:=zR4 j k;have e:qA0 (n+1) L a=(L,[],a):=by simp only[qA0,if_pos k]
  rw[e];refine (zP7 V r h (qR4 F) w d).mono ?_;rintro e I ⟨rfl,hK⟩;exact⟨by rw[<-y],by simpa using f.keep hK,Wx.ofKp (hK.mono sM) f.low⟩
 | none=>
  obtain⟨D,q,d,H⟩:=zQ7 j hx;have i:¬L.ref.isSome=true:=by rw[hx];simp
  have R:news (n+1) L=1+meas (news n) (η L.sub):=by simp only[news,if_neg i]
  have B:=qQ8 (qA0 n) (news n) (η L.sub) a (λl _ a=>qO8 n l a);obtain⟨K,M,P,Q⟩:=G.2 hx
  cases hfr:(qB4 (qA0 n) (η L.sub) a).2.2 with
  | nil=>
   have c:=congrArg List.length B;rw[hfr,lD] at c;simp at c;omega
  | cons b fr'=>
   have e:qA0 (n+1) L a=(⟨L.key,some (b,fnv (qA3 ((n+1:Nat):Int) [] ((qB4 (qA0 n) (η L.sub) a).1.map lhl))),(qB4 (qA0 n) (η L.sub) a).1⟩,(qB4 (qA0 n) (η L.sub) a).2.1++[(b,toB (qA3 ((n+1:Nat):Int) [] ((qB4 (qA0 n) (η L.sub) a).1.map lhl)))],fr'):=by
    simp only[qA0,if_neg i,hfr,List.headD_cons,List.tail_cons]
   rw[e];refine (jR8 g V A N C base F O u n m v p h r q L b a fr' J w f d H K M P Q oM z E hfr).mono ?_;rintro e I ⟨rfl,c,o⟩;exact⟨by simp only[lhl,D,Option.getD_some],by rw[<-aA];exact c,o⟩
theorem xI0(a:Int)(V A N C base F:Nat)(O:qE8)(e:∀ (n b:Nat) (s:Int) (t:Tn n),O n b s t->b<=1000000/\0<=s)(d:V≠A)(c:N<=1000):∀ n,qX8 κ a V A N C base F O n
 | 0=>jS2 a V A N C base F O d c
 | n+1=>jS1 a V A N C base F O e d c n (xI0 a V A N C base F O e d c n)
theorem xS0(V A N C:Nat)(l)(f:Int)(ah:V≠A)(af:C≠A)(ai:V≠C)(hN:N<=1000)(hs:N*128<=l.length)(h X)(fr)(c)(v)(w)(o:Devl V A N C l f w)(y:Slc w 3 1 v fr.length (qH6 fr))(z:∀ x∈c,x.1<N/\x.2.length=128)(ak:c.length<=10000)(aj:X.ptr=none)
  (Y:∀ (F:Nat) (a),Kp [] w a->Ly (l.length / 128) f V A N C a.heap.size F [] fr a->Calls prog 174 #[τ V h,qC1 h,qR4 F] a λe m=>e=.returned (qC1 X)/\(∃ fr',Ly (l.length / 128) f V A N C a.heap.size F c fr' m)/\Wx a.heap.size [A,F] a m):
  Calls prog 115 #[τ V h,v] w λe m=>e=.returned (.agg #[.int .i64 X.b,.int .u64 X.s])/\Devl V A N C (laidAll l c) (nk f c.length) m/\Kp [A,C] w m:=by
 obtain⟨ae,r⟩:=o.hA;obtain⟨G,I,rfl⟩:=qK2 y;obtain⟨J,p⟩:=eX fr.length;have E:Hid (Slc w 3 1 (.slice G J I) fr.length (qH6 fr)):=by rw[p];exact y
 rw[<-p];have q:=zh o;have HA:=zh r;have al:=zh p;have an:=ζ r;have ao:=ζ o.hC;have B:=zh Y;clear o y r p Y;rw[τ];go_enter func115,ntmps115;go_wp2_with fail;obtain⟨a,aa,U,Q,S,b,av⟩:=qY0 w (.cells (ϟ V h) 89) (.cells #[.slice G J I] 24) (.cells #[ϊ 0,.int .u64 0] 84);rw[<-aa];clear aa;have hy:Ly (l.length / 128) f V A N C a.heap.size (w.heap.size+1) [] fr a:=⟨b.hp q.hV,⟨.slice none 0 0,ae,b.hp HA,wN _ _ _ _⟩,⟨_,Q,E.keep0 b⟩,lR⟩;have M:=b.hp q.hC;refine (show Calls _ _ _ _ _ from B (w.heap.size+1) a b hy).mono ?_;rintro e w1 ⟨rfl,⟨fr',hy1⟩,hW1⟩;rw[qC1,aj];obtain⟨v1,H,K,Z⟩:=hy1.hA;have t:=hW1.oth _ _ _ _ U dC sO;have T:=hW1.oth _ _ _ _ S dC sO;have O:=hW1.oth _ _ _ _ M dC sO;have u:=hy1.hV;have aw:=hW1.size;have D:Hid (Kp [A] w w1):=⟨hW1.os.trans b.os,hW1.tape.trans b.tape,hW1.output.trans b.output,lT b.size hW1.size,λk hk hm=>(hW1.low k oM (by simp at hm |-;omega)).trans (b.block k hk sM)⟩;clear hy hy1 hW1 M U Q S b E B;have t0:=ϻ t 0;have ar:=ζ t;go_wp2_with fail;obtain⟨w2,ab,R,d,ax⟩:=qD5 w1 (.cells #[.string X.key,ϊ X.b,.int .u64 X.s,.pointer none] 87);rw[<-ab];clear ab t0;refine (zT6 V A N C a.heap.size v1 c H (nk f c.length) l w2 (d.hp u) (d.hp K) (qI5 Z d (Apt.nil _ _)) z oM hN (d.hp O) hs af).mono ?_;rintro e g ⟨rfl,L,P,i⟩;have s:=i.ho R;have j:=i.heap (d.hp T) sO;have W:=i.heap (d.hp u) (by simp[ah,ai]);have ap:=ζ s;have aq:=ζ j;have z1:=ξ s;have y0:=ξ j;have am:=ψ j;have ad:=zh j;have ac:Hid (Ϙ g V (qE4 A N)/\Ϙ g A (qA6 ((laidAll l c).length / 128) N C (.slice none 0 0) (nx H) (nk f c.length))/\Ϙ g C (.cells (enc (laidAll l c)) 115)/\Kp [A,C] w g):=⟨W,by rw[xG5 N c l hs z];exact L,P,((D.mono sM).tr d).tr i⟩;clear L P i W R d T u K Z O t D s j z ak;go_wp2_with fail;have n:Kp [w.heap.size+1+1] g ((g.setCell ⟨w.heap.size+1+1,0,none⟩ (ϊ X.b)).setCell ⟨w.heap.size+1+1,1,none⟩ (.int .u64 X.s)):=(kF.sc _).sc _;have ag:=μ (μ ad 0 (ϊ X.b)) 1 (.int .u64 X.s);obtain⟨e1,e2,e3,e4⟩:=ac.out;refine bodyPost_ret (results_cell_row results115 _ _ (w.heap.size+1+1) 84 #[ϊ X.b,.int .u64 X.s] (0,0) _ rfl ag underlying84 rfl kR) rfl ?_;have au:=ζ q.hV;exact⟨rfl,⟨n.ho e1,⟨_,n.ho e2⟩,n.ho e3⟩,e4.trans n sO⟩
theorem kN0(V A N C:Nat)(l)(a:Int)(O:qE8)(k:∀ (n b:Nat) (s:Int) (t),O n b s t->b<=1000000/\0<=s)(d:V≠A)(i:C≠A)(m:V≠C)(c:N<=1000)(z:N*128<=l.length)(n:Nat)(h)(L)(fr)(v)(w)(p:Devl V A N C l a w)(y:RL O n w h L)(u:OkL n L)(r:news n L<=fr.length)(q:∀ b∈fr,b<N)(H:fr.length<=10000)(B:Slc w 3 1 v fr.length (qH6 fr))(D:∀ x∈(qA0 n L fr).2.1,x.1<N/\x.2.length=128):
  Calls prog 115 #[τ V h,v] w λe f=>e=.returned (.agg #[.int .i64 (lhl (qA0 n L fr).1).b,.int .u64 (lhl (qA0 n L fr).1).s])/\Devl V A N C (laidAll l (qA0 n L fr).2.1) (nk a (qA0 n L fr).2.1.length) f/\Kp [A,C] w f:=by
 have I:=qZ9 n L fr;refine xS0 V A N C l a d i m c z h (lhl (qA0 n L fr).1) fr (qA0 n L fr).2.1 v w p B D oM rfl ?_;intro F g j E;refine (xI0 a V A N C g.heap.size F O k d c n h h L fr [] g E (RL.keep y j (Apt.nil _ _)) u r q sO).mono ?_;rintro e J ⟨rfl,G,o⟩;exact⟨rfl,⟨_,by simpa using G⟩,o⟩
theorem kM9(V A N C:Nat)(l)(a:Int)(g:V≠A)(d:C≠A)(h:V≠C)(f:N<=1000)(j:N*128<=l.length)(fr)(v)(w)(i:Devl V A N C l a w)(k:Slc w 3 1 v fr.length (qH6 fr)):
  Calls prog 115 #[τ V ⟨⟨#[]⟩,0,0,none⟩,v] w λe c=>e=.returned (.agg #[.int .i64 0,.int .u64 0])/\Devl V A N C l a c/\Kp [A,C] w c:=by
 refine xS0 V A N C l a g d h f j ⟨⟨#[]⟩,0,0,none⟩ ⟨⟨#[]⟩,0,0,none⟩ fr [] v w i k sM sM rfl ?_;intro F m n b;refine (zP7 V _ ⟨⟨#[]⟩,0,0,none⟩ (qR4 F) m rfl).mono ?_;rintro e o ⟨rfl,hK⟩;exact⟨rfl,⟨_,b.keep hK⟩,Wx.ofKp (hK.mono sM) b.low⟩
def Blk:(n:Nat)→Nat→Tn n→List Nat
 | 0,b,_=>[b]
 | n+1,b,t=>b::(η t).flatMap (fun m=>match m.ref with | some x=>Blk n x.1 m.sub | none=>[])
theorem Laid.move{N:Nat}{l l'}:∀ (n b:Nat) (s:Int) (t),Laid N l n b s t->(∀ k∈Blk n b t,ω l' k=ω l k)->Laid N l' n b s t
 | 0,b,s,t,h,hk=>by
  obtain⟨d,e,f,c,g⟩:=h;exact⟨d,e,f,(hk b (by simp[Blk])).trans c,g⟩
 | n+1,b,s,t,h,hk=>by
  obtain⟨d,e,f,u,c,g,p,q⟩:=h;refine⟨d,e,f,u,⟨c.1,λi o j=>?_⟩,g,(hk b (by simp[Blk])).trans p,q⟩;have m:=c.2 i o j;refine⟨m.1,?_⟩;have a:=m.2
  cases hx:(η t)[i].ref with
  | none=>rw[hx] at a;exact a
  | some x=>
   rw[hx] at a;refine⟨a.1,a.2.1,a.2.2.1,Laid.move n x.1 x.2 _ a.2.2.2 (λk r=>hk k ?_)⟩;simp only[Blk,mC,List.mem_flatMap];exact Or.inr ⟨(η t)[i],gM j,by rw[hx];exact r⟩
theorem qY1(l b)(i k n:Nat)(c:b.length=128)(g:n*128<=l.length)(d:i<n)(f:k≠i):ω (qC7 l i b) k=ω l k:=by
 refine List.ext_getElem? λj=>?_;simp only[ω,qC7,List.getElem?_take,List.getElem?_drop];split
 .rename_i e;rw[aA,List.getElem?_append];split
  .rename_i a;rw[List.getElem?_take];simp only[lK] at a;rw[if_pos oM]
  .rename_i a;simp only[lK] at a |-;rw[List.getElem?_append,if_neg oM,List.getElem?_drop]
   congr 1
   omega
 .rfl
theorem qY2(l b)(i n:Nat)(a:b.length=128)(d:n*128<=l.length)(c:i<n):ω (qC7 l i b) i=b:=by
 exact xZ6 l i b a oM
theorem zX9(n k:Nat)(ws):∀ (l),n*128<=l.length->(∀ x∈ws,x.1<n/\x.2.length=128)->k ∉ ws.map Prod.fst->ω (laidAll l ws) k=ω l k:=by
 induction ws with
 | nil=>intro l _ _ _;rfl
 | cons a ws ih=>
  intro l d e c;simp only[List.map_cons,mC,not_or] at c;have b:=e a sM;refine (ih (qC7 l a.1 a.2) (qU9 l a.2 a.1 n b.2 d b.1) (λx f=>e x (by simp[f])) c.2).trans ?_;exact qY1 l a.2 a.1 k n b.2 d b.1 c.1
theorem xZ4(n:Nat)(ws)(x:Nat × List UInt8):∀ (l),n*128<=l.length->(∀ x∈ws,x.1<n/\x.2.length=128)->(ws.map Prod.fst).Nodup->x∈ws->ω (laidAll l ws) x.1=x.2:=by
 induction ws with
 | nil=>intro l _ _ _ h;cases h
 | cons a ws ih=>
  intro l g d c e;simp only[List.map_cons,List.nodup_cons] at c;have b:=d a sM;have i:=qU9 l a.2 a.1 n b.2 g b.1;rcases List.mem_cons.1 e with rfl|e
  .exact (zX9 n x.1 ws (qC7 l x.1 x.2) i (λy f=>d y (by simp[f])) c.1).trans (qY2 l x.2 x.1 n b.2 g b.1)
  .exact ih (qC7 l a.1 a.2) i (λy f=>d y (by simp[f])) c.2 e
def qJ9(N:Nat)(l:List UInt8):(n:Nat)→Lnk (Tn n)→Prop
 | 0,L=>∀ x,L.ref=some x→Laid N l 0 x.1 x.2 L.sub
 | n+1,L=>(∀ x,L.ref=some x→Laid N l (n+1) x.1 x.2 L.sub)∧(L.ref=none→∀ m∈η L.sub,qJ9 N l n m)
def qH8:(n:Nat)→Lnk (Tn n)→List Nat
 | 0,L=>match L.ref with | some x=>Blk 0 x.1 L.sub | none=>[]
 | n+1,L=>match L.ref with | some x=>Blk (n+1) x.1 L.sub | none=>(η L.sub).flatMap (qH8 n)
def zV7(N:Nat)(l l':List UInt8)(n:Nat):Prop:=∀ (L:Lnk (Tn n)) (fr:List Nat),qJ9 N l n L→OkL n L→n<6→(∀ b∈fr,2≤b∧b<N)→news n L≤fr.length→(∀ x∈(qA0 n L fr).2.1,ω l' x.1=x.2)→(∀ k∈qH8 n L,ω l' k=ω l k)→
 ∃ x,(qA0 n L fr).1.ref=some x∧Laid N l' n x.1 x.2 (qA0 n L fr).1.sub
theorem xH1(N:Nat)(l l')(n:Nat)(i:zV7 N l l' n)(j:n<6):∀ (ls) (c),(∀ m∈ls,qJ9 N l n m/\OkL n m)->(∀ b∈c,2<=b/\b<N)->meas (news n) ls<=c.length->(∀ x∈(qB4 (qA0 n) ls c).2.1,ω l' x.1=x.2)->(∀ k∈ls.flatMap (qH8 n),ω l' k=ω l k)->
  ∀ m∈(qB4 (qA0 n) ls c).1,∃ x,m.ref=some x/\Laid N l' n x.1 x.2 m.sub
 | [],_,_,_,_,_,_=>by intro m f;cases f
 | a::ls,c,h,hf,f,hx,hk=>by
  rw[qC2] at f;intro m g;simp only[qB4,mC] at g;simp only[qB4,List.mem_append] at hx;rcases g with rfl|g
  .exact i a c (h a sM).1 (h a sM).2 j hf oM (λx d=>hx x (Or.inl d)) (λk d=>hk k (by simp only[fC,List.mem_append];exact Or.inl d))
  .have e:=qO8 n a c;exact xH1 N l l' n i j ls _ (λm f=>h m (by simp[f])) (λb hb=>by rw[e] at hb;exact hf b (mD hb)) (by rw[e,lD];omega) (λx d=>hx x (Or.inr d)) (λk d=>hk k (by simp only[fC,List.mem_append];exact Or.inr d)) m g
theorem jW6{n:Nat}{m}(h:OkL n m):m.key.size<=8:=by
 cases n with
 | zero=>exact h.1
 | succ n=>exact h.1
theorem xH5(n:Nat):∀ (ls:List (Lnk (Tn n))) (c:List Nat),(∀ m∈ls,m.key.size<=8)->∀ m∈(qB4 (qA0 n) ls c).1,m.key.size<=8
 | [],_,_=>by intro m b;cases b
 | a::ls,c,h=>by
  intro m b;simp only[qB4,mC] at b;rcases b with rfl|b
  .rw[xH7];exact h a sM
  .exact xH5 n ls _ (λm b=>h m (by simp[b])) m b
theorem Laid.leaf{N b:Nat}{l}{t}(a:2<=b/\b<N)(c:ω l b=toB (qA3 0 (prs t) []))(d:(∀ p∈prs t,qC3 p)/\2+meas θ (prs t)<=128/\(prs t).length<=126):Laid N l 0 b (fnv (qA3 0 (prs t) [])) t:=⟨a.1,a.2,Eq.refl _,c,d⟩
theorem Laid.branch{N b n:Nat}{l}{t}(hs)(a:2<=b/\b<N)(c:n+1<6)(d:Both (RLof (λ_ _=>False) (Laid N l n)) hs (η t))(e:ω l b=toB (qA3 ((n+1:Nat):Int) [] hs))(f:(∀ h∈hs,h.key.size<=8)/\2+meas φ hs<=128/\hs.length<=126):Laid N l (n+1) b (fnv (qA3 ((n+1:Nat):Int) [] hs)) t:=⟨a.1,a.2,c,hs,d,Eq.refl _,e,f⟩
theorem jT1{X:Type}(m:Lnk X)(x:Nat × Int)(h:m.ref=some x):(lhl m).b=(x.1:Int)/\(lhl m).s=x.2:=by
 simp only[lhl,h,Option.getD_some,and_self]
theorem xH2(N:Nat)(l l'):∀ n,zV7 N l l' n
 | 0=>by
  intro L a q v _ j u d o
  cases hr:L.ref with
  | some x=>
   have w:L.ref.isSome:=by rw[hr];rfl
   have e:qA0 0 L a=(L,[],a):=by simp only[qA0,if_pos w]
   rw[e];refine⟨x,hr,Laid.move 0 x.1 x.2 L.sub (q x hr) (λk c=>o k ?_)⟩;simp only[qH8,hr];exact c
  | none=>
   have h:¬L.ref.isSome=true:=by rw[hr];simp
   have B:news 0 L=1:=by simp only[news,if_neg h]
   cases a with
   | nil=>rw[B] at u;simp at u
   | cons b a=>
    have e:qA0 0 L (b::a)=(⟨L.key,some (b,fnv (qA3 0 (prs L.sub) [])),L.sub⟩,[(b,toB (qA3 0 (prs L.sub) []))],a):=by simp only[qA0,if_neg h,List.headD_cons,List.tail_cons]
    rw[e] at d |-;obtain⟨H,r,y⟩:=v.2 hr;have g:=d (b,toB (qA3 0 (prs L.sub) [])) (List.mem_singleton.2 rfl);have f:=Laid.leaf (j b sM) g ⟨H,r,y⟩;generalize fnv (qA3 0 (prs L.sub) [])=s at f |-;exact⟨(b,s),rfl,f⟩
 | n+1=>by
  intro L a q v O j u d o
  cases hr:L.ref with
  | some x=>
   have w:L.ref.isSome:=by rw[hr];rfl
   have e:qA0 (n+1) L a=(L,[],a):=by simp only[qA0,if_pos w]
   rw[e];refine⟨x,hr,Laid.move (n+1) x.1 x.2 L.sub (q.1 x hr) (λk c=>o k ?_)⟩;simp only[qH8,hr];exact c
  | none=>
   have h:¬L.ref.isSome=true:=by rw[hr];simp
   have B:news (n+1) L=1+meas (news n) (η L.sub):=by simp only[news,if_neg h]
   have t:=qQ8 (qA0 n) (news n) (η L.sub) a (λl _ a=>qO8 n l a);obtain⟨H,r,y,Q⟩:=v.2 hr
   cases hfr:(qB4 (qA0 n) (η L.sub) a).2.2 with
   | nil=>
    have C:=congrArg List.length t;rw[hfr,lD] at C;simp at C;omega
   | cons b fr'=>
    have e:qA0 (n+1) L a=(⟨L.key,some (b,fnv (qA3 ((n+1:Nat):Int) [] ((qB4 (qA0 n) (η L.sub) a).1.map lhl))),(qB4 (qA0 n) (η L.sub) a).1⟩,(qB4 (qA0 n) (η L.sub) a).2.1++[(b,toB (qA3 ((n+1:Nat):Int) [] ((qB4 (qA0 n) (η L.sub) a).1.map lhl)))],fr'):=by
     simp only[qA0,if_neg h,hfr,List.headD_cons,List.tail_cons]
    rw[e] at d |-;have M:b∈a:=by rw[hfr] at t;exact mD (t ▸ List.mem_cons_self)
    have D:=xH1 N l l' n (xH2 N l l' n) oM (η L.sub) a (λm c=>⟨q.2 hr m c,r m c⟩) j oM (λx hh=>d x (List.mem_append_left _ hh)) (λk hh=>o k (by simp only[qH8,hr];exact hh));have E:=xH5 n (η L.sub) a (λm c=>jW6 (r m c));have G:=zG9 n (η L.sub) a;have F:=zP0 (qA0 n) (η L.sub) a;have g:=d (b,toB (qA3 ((n+1:Nat):Int) [] ((qB4 (qA0 n) (η L.sub) a).1.map lhl))) (List.mem_append_right _ (List.mem_singleton.2 rfl));generalize qB4 (qA0 n) (η L.sub) a=R at D E G F g |-;have f:Laid N l' (n+1) b (fnv (qA3 ((n+1:Nat):Int) [] (R.1.map lhl))) R.1:=by
     refine Laid.branch (R.1.map lhl) (j b M) O ⟨by rw[List.length_map];rfl,λi S K=>?_⟩ g ⟨?_,by rw[G];exact y,by rw[List.length_map,F];exact Q⟩
     .rw[List.getElem_map];obtain⟨x,z,I⟩:=D _ (gM K);refine⟨rfl,?_⟩;have J:=z;rw[J];have A:=jT1 _ x z;exact⟨A.1,A.2,rfl,I⟩
     .intro p P;obtain⟨m,c,rfl⟩:=List.mem_map.1 P;exact E m c
    clear d g;generalize fnv (qA3 ((n+1:Nat):Int) [] (R.1.map lhl))=s at f |-;exact⟨(b,s),rfl,f⟩
theorem xH4{X:Type}(f:Lnk X->List Nat->Lnk X × List (Nat × List UInt8) × List Nat)(g:Lnk X->Nat):∀ (ls:List (Lnk X)) (a),(∀ l∈ls,∀ a:List Nat,g l<=a.length->(f l a).2.1.map Prod.fst=a.take (g l)/\(f l a).2.2=a.drop (g l))->meas g ls<=a.length->(qB4 f ls a).2.1.map Prod.fst=a.take (meas g ls)
 | [],a,_,_=>by simp[qB4,qD1]
 | l::ls,a,h,hm=>by
  rw[qC2] at hm |-;obtain⟨c,b⟩:=h l sM a oM;simp only[qB4,List.map_append];rw[xH4 f g ls _ (λx d=>h x (by simp[d])) (by rw[b,lD];omega),c,b,List.take_add]
theorem zP4:∀ (n:Nat) (l) (a),news n l<=a.length->(qA0 n l a).2.1.map Prod.fst=a.take (news n l)
 | 0,l,a,h=>by
  by_cases c:l.ref.isSome=true
  .simp only[qA0,news,if_pos c,List.map_nil,List.take_zero]
  .simp only[qA0,news,if_neg c] at h |-
   cases a with
   | nil=>simp at h
   | cons b a=>simp
 | n+1,l,a,h=>by
  by_cases c:l.ref.isSome=true
  .simp only[qA0,news,if_pos c,List.map_nil,List.take_zero]
  .simp only[qA0,news,if_neg c] at h |-;have d:=xH4 (qA0 n) (news n) (η l.sub) a (λl _ a g=>⟨zP4 n l a g,qO8 n l a⟩) (by have:meas (λm=>news n m) (η l.sub)=meas (news n) (η l.sub):=rfl;omega);have f:=qQ8 (qA0 n) (news n) (η l.sub) a (λl _ a=>qO8 n l a);rw[List.map_append,d,f];simp only[List.map_cons,List.map_nil];have e:meas (λm=>news n m) (η l.sub)=meas (news n) (η l.sub):=rfl;rw[e] at h |-;generalize meas (news n) (η l.sub)=k at h |-;rw[Nat.add_comm 1 k,tA oM,dG oM];rfl
theorem zP5:∀ (n:Nat) (l) (c),OkL n l->∀ x∈(qA0 n l c).2.1,x.2.length=128
 | 0,l,c,h,x,b=>by
  by_cases d:l.ref.isSome=true
  .simp[qA0,if_pos d] at b
  .simp only[qA0,if_neg d,List.mem_singleton] at b;obtain⟨j,e,k⟩:=h.2 (by simpa using d);rw[b];simp only[qH5];exact qQ0 0 _ [] (by simpa [qD1] using e)
 | n+1,l,c,h,x,b=>by
  by_cases d:l.ref.isSome=true
  .simp[qA0,if_pos d] at b
  .simp only[qA0,if_neg d,List.mem_append,List.mem_singleton] at b;obtain⟨j,e,k,o⟩:=h.2 (by simpa using d);rcases b with b|b
   .have g:∀ (ls:List (Lnk (Tn n))) (c:List Nat),(∀ m∈ls,OkL n m)->∀ x∈(qB4 (qA0 n) ls c).2.1,x.2.length=128:=by
     intro ls
     induction ls with
     | nil=>intro c _ x b;simp[qB4] at b
     | cons a ls ih=>
      intro c f x b;simp only[qB4,List.mem_append] at b;rcases b with b|b
      .exact zP5 n a c (f a sM) x b
      .exact ih _ (λm i=>f m (by simp[i])) x b
    exact g _ c e x b
   .rw[b];simp only[qH5];exact qQ0 _ [] _ (by rw[zG9,qD1];omega)
theorem zP3:∀ (n:Nat) (l) (b),cont n (qA0 n l b).1.sub=cont n l.sub
 | 0,l,b=>by
  by_cases c:l.ref.isSome=true
  .simp only[qA0,if_pos c]
  .simp only[qA0,if_neg c]
 | n+1,l,b=>by
  by_cases c:l.ref.isSome=true
  .simp only[qA0,if_pos c]
  .simp only[qA0,if_neg c];have d:∀ (ls) (b),(qB4 (qA0 n) ls b).1.flatMap (λm=>cont n m.sub)=ls.flatMap (λm=>cont n m.sub):=by
    intro ls
    induction ls with
    | nil=>intro b;rfl
    | cons a ls ih=>
     intro b;simp only[qB4,fC,ih,zP3 n a b]
   exact d _ b
open Go.Maps (Keyed)
open Go.ChangeMaps
def qT7(k:Nat):Lit:=.int .i64 (k:Int)
theorem xG0{k:Nat}(h:k<=1000000):keyOf prog 3 (.int .i64 (k:Int))=some (qT7 k):=
 Maps.keyOf_int_mk underlying3 (by simp[Lit.wf,IntKind.min,IntKind.max,IntKind.signed,IntKind.bits];omega)
theorem zO6:Keyed prog 3:=Maps.int_keyed underlying3
theorem jQ6(k:Nat):WideAt.IsKeyLit (qT7 k):=by simp[WideAt.IsKeyLit,qT7]
theorem jQ7{a b:Nat}(h:a≠b):qT7 a≠qT7 b:=by
 intro e;simp only[qT7,Lit.int.injEq,true_and] at e;omega
def BS(w:World)(M c:Nat)(ks:List Nat):Prop:=∃ n D,w.ownsMap prog 3 (unitElem (H:=Unit)) M n D∧n≤c∧Maps.size D=ks.length∧∀ k:Nat,Maps.has D (qT7 k)=decide (k∈ks)
theorem BS.made(w:World):BS (w.alloc (.map #[] 0)) w.heap.size 0 []:=⟨0,.map [],World.ownsMap_made w _ _ _,lR,rfl,λk=>by simp[Maps.has]⟩
theorem BS.kp{S}{w w'}{M c:Nat}{ks}(h:BS w M c ks)(hK:Kp S w w')(a:M ∉ S):BS w' M c ks:=by
 obtain⟨n,D,⟨es,cl,hb,hf⟩,h2⟩:=h;exact⟨n,D,⟨es,cl,hK.heap hb a,hf⟩,h2⟩
theorem BS.len{w}{M c:Nat}{ks}(h:BS w M c ks)(ty):(Builtin.len_ #[249] ty #[.map (some M)]).run prog w=.ok (.int .i64 (ks.length:Int)) w:=by
 obtain⟨n,D,a,d,b,e⟩:=h;rw[<-b];exact World.ownsMap.len a underlying249 ty
theorem BS.store{w}{M c b:Nat}{ks}(h:BS w M c ks)(o:b<=1000000)(q:c<=1000000):
  ∃ d,(Instr.mapUpdate 249 (.map (some M)) (.int .i64 (b:Int)) (.agg #[])).run prog w=.ok () d/\BS d M (c+1) (if b∈ks then ks else b::ks)/\Kp [M] w d:=by
 obtain⟨n,D,e,p,m,g⟩:=h;obtain⟨d,i,j,l⟩:=World.ownsMap.store e zO6 underlying249 (by simp[maxLen];omega) (xG0 o) (unitElem_mk (H:=Unit));refine⟨d,i,⟨n+1,_,j,oM,?_,λk=>?_⟩,Kp.turned l⟩
 .rw[Maps.size_put (e.tidy zO6),g b,m];by_cases a:b∈ks<;>simp[a]
 .by_cases f:k=b
  .rw[f,Maps.has_put_same e.isMap (jQ6 b)];by_cases a:b∈ks<;>simp[a]
  .rw[Maps.has_put_other (jQ7 f),g k];by_cases a:b∈ks<;>simp[a,f]
theorem BS.look{w}{M c k:Nat}{ks}(h:BS w M c ks)(f:k<=1000000):
  (Instr.lookup 249 (.map (some M)) (.int .i64 (k:Int)) true).run prog w=.ok (.tuple #[.agg #[],.bool (decide (k∈ks))]) w:=by
 obtain⟨n,D,d,g,i,e⟩:=h;obtain⟨v,ps,a,b⟩:=World.ownsMap.look_ok d zO6 underlying249 (z:=.agg #[]) kR (unitElem_mk (H:=Unit)) (xG0 f);obtain⟨rfl,_⟩:=unitElem_inv b;rw[a,e]
def zG2(ks:List Nat)(b:Nat):List Nat:=if b∈ks then ks else b::ks
theorem jA7(M c b:Nat)(ks)(h)(w)(v:BS w M c ks)(B:h.p=none)(x:h.b=(b:Int))(y:b<=1000000)(z:c<=1000000)(m:ks.length<=1000000):
  Calls prog 235 #[.map (some M),qC1 h] w λe q=>e=.returned (.bool (decide (b ∉ ks)))/\BS q M (c+1) (zG2 ks b)/\Kp [M] w q:=by
 have C:h.ptr=none:=by simp[HL.ptr,B]
 obtain⟨n,D,⟨es,cl,hmb,hf⟩,h2⟩:=v;have G:=ζ hmb;have u:Hid (BS w M c ks):=⟨n,D,⟨es,cl,hmb,hf⟩,h2⟩;rw[qC1,C,x];obtain⟨L,p,f,d,I⟩:=qD5 w (.cells #[.string h.key,ϊ (b:Int),.int .u64 h.s,.pointer none] 87);have g:=u.out.kp d sM;have o:=g.len 3;obtain⟨r,H,i,l⟩:=g.store y z;have A:=i.len 3;clear hmb hf h2;go_enter func235,ntmps235;go_wp2_with fail;rw[<-p,o];have F:=ζ f;have E:=ϻ f 1;have HL:=zh m;obtain⟨J,j⟩:=eX ks.length;obtain⟨K,k⟩:=eX ((if b∈ks then ks else b::ks).length);rw[<-j];rw[<-k] at A;have t:=zh (n2 j k);have s:Hid (BS r M (c+1) (zG2 ks b)/\Kp [M] w r):=⟨i,(d.mono sM).tr l⟩;clear i l d f o g m j k p;go_wp2;go_ret;refine⟨?_,s⟩;have h:=t.out;by_cases a:b∈ks
 .simp only[a,if_true] at h;simp[a,h.1,h.2]
 .simp only[a,if_false,lC] at h;simp only[a,not_false_eq_true,decide_true];rw[h.1,h.2];simp
theorem BS.mono{w}{M c a:Nat}{ks}(h:BS w M c ks)(f:c<=a):BS w M a ks:=by
 obtain⟨n,D,b,e,d⟩:=h;exact⟨n,D,b,oM,d⟩
theorem BS.card{w}{M c:Nat}{ks}(h:BS w M c ks):ks.length<=c:=by
 obtain⟨n,D,a,b,d,_⟩:=h;have:=a.size_le;omega
theorem BS.at{w}{M c:Nat}{ks}(h:BS w M c ks):∃ b a,w.heap[M]?=some (.map b a):=by
 obtain⟨n,D,⟨b,a,hb,hf⟩,h2⟩:=h;exact⟨b,a,hb⟩
def qF9{X:Type}(f:X→List Nat→List Nat)(ks:List Nat)(m:Lnk X):List Nat:=match m.ref with
 | none=>f m.sub ks
 | some x=>if x.1∈ks then ks else f m.sub (x.1::ks)
def qF6:(n:Nat)→Tn n→List Nat→List Nat
 | 0,_,ks=>ks
 | n+1,t,ks=>(η t).foldl (qF9 (qF6 n)) ks
theorem jA6(M:Nat)(h)(q:Nat)(w)(a:h.p=some q):
  Calls prog 235 #[.map (some M),qC1 h] w λe c=>e=.returned (.bool true)/\Kp [] w c:=by
 have b:h.ptr=some ⟨q,0,none⟩:=by simp[HL.ptr,a]
 rw[qC1,b];go_enter func235,ntmps235;go_wp2;go_ret;exact⟨rfl,kF.alloc _⟩
theorem zY6{E:SEnv}(p:∀ (n b:Nat) (s:Int) (t:Tn n),E.O n b s t->b<=1000000)(n M c:Nat)(ks:List Nat)(h:HL)(m:Lnk (Tn n))(w:World)(g:BS w M c ks)(j:RL E.O n w h m)(r:c<=1000000):
  Calls prog 235 #[.map (some M),qC1 h] w λe a=>∃ go ks1,e=.returned (.bool go)/\BS a M (c+1) ks1/\Kp [M] w a/\(∀ f:Tn n->List Nat->List Nat,qF9 f ks m=if go then f m.sub ks1 else ks1):=by
 cases hx:m.ref with
 | none=>
  obtain⟨v,q,i,y⟩:=zQ7 j hx;refine (jA6 M h q w i).mono ?_;rintro e a ⟨rfl,hK⟩;exact⟨true,ks,rfl,(g.kp hK sM).mono oM,hK.mono sM,λf=>by simp[qF9,hx]⟩
 | some x=>
  obtain⟨i,u⟩:=zR4 j (by rw[hx];rfl);have d:=j.2;rw[hx] at d;refine (jA7 M c x.1 ks h w g i d.1 (p _ _ _ _ d.2.2.2) r (by have:=g.card;omega)).mono ?_;rintro e a ⟨rfl,l,o⟩;refine⟨_,_,rfl,l,o,λf=>?_⟩;by_cases k:x.1∈ks
  .simp[qF9,hx,zG2,k]
  .simp[qF9,hx,zG2,k]
theorem xZ3(E:SEnv)(t:Tn 0)(q M c:Nat)(ks:List Nat)(r:HL)(w:World)(f:E.Dev w)(a:RN E.O 0 w q t)(d:BS w M c ks):
  Calls prog 236 #[.map (some M),τ E.V r,.pointer (some ⟨q,0,none⟩)] w λe h=>e=.returned (.tuple #[])/\Kp [] w h:=by
 obtain⟨j,a,g⟩:=a;have i:=ζ a;have b:=ξ a 2;simp only[χ,zG,zH,zI] at b;clear a g d f;rw[τ];go_enter func236,ntmps236;go_wp2_with fail;refine wp_loop_rounds 1 ?_;rw[rounds_succ];go_wp2
 go_end0
 exact⟨rfl,kF.alloc _⟩
def zC6(E:SEnv)(n:Nat):Prop:=∀ (t:Tn n) (q M c:Nat) (ks:List Nat) (r:HL) (w:World),E.Dev w→RN E.O n w q t→BS w M c ks→c+qB1 n t≤1000000→
 Calls prog 236 #[.map (some M),τ E.V r,.pointer (some ⟨q,0,none⟩)] w fun e w'=>e=.returned (.tuple #[])∧BS w' M (c+(qB1 n t-1)) (qF6 n t ks)∧E.Dev w'∧Kp (M::E.S) w w'
theorem xZ2(E):zC6 E 0:=λt q M c ks r w b d a f=>by
 refine (xZ3 E t q M c ks r w b d a).mono ?_;rintro e g ⟨rfl,hK⟩;exact⟨rfl,(a.kp hK sM).mono oM,(Env.To.of0 b hK).dev,hK.mono sM⟩
theorem qQ9(E:SEnv){w:World}{M d:Nat}{ks:List Nat}(g:E.Dev w)(f:BS w M d ks){k:Nat}{c:Array Value}{t:TypeId}{e:Nat × Nat}(h:w.heap[k]?=some (.cells c t e))(i:t ∉ qO2):k ∉ M::E.S:=λa=>by
 rcases List.mem_cons.1 a with rfl|a
 .obtain⟨l,j,b⟩:=f.at;rw[h] at b;cases b
 .exact E.nin g h i a
theorem zD5(E:SEnv){w:World}{M a:Nat}{ks:List Nat}(d:E.Dev w)(b:BS w M a ks):Apt w (M::E.S) qF1:=λk f c t h e g=>qQ9 E d b e ((by decide:∀ t∈qF1,t ∉ qO2) t g) f
theorem xZ1(E)(hO:∀ (n b:Nat) (s:Int) (t),E.O n b s t->b<=1000000)(n:Nat)(IH:zC6 E n):zC6 E (n+1):=by
 intro t q M c ks r w hd z hM hc;obtain⟨vl,z,d,au,an⟩:=z;obtain⟨lb,lc,rfl⟩:=qK2 au;obtain⟨u,ae⟩:=eX d.length;obtain⟨v,ao⟩:∃ v:Int,v=((n+1:Nat):Int):=⟨_,rfl⟩;rw[<-ae,<-ao] at z;have bq:=zh au;have Q:=zh an;have H:=zh (n2 ae ao);have V:=zh z;have F:=zh hd;have I:=zh hM;have b4:=ζ z;have q2:=ξ z 2;simp only[χ,zG,zH,zI] at q2;have bv:=qK0 (λl:Lnk (Tn n)=>qB1 n l.sub) (η t) (λx _=>by cases n<;>simp[qB1]);have bg:qB1 (n+1) t=1+meas (λl:Lnk (Tn n)=>qB1 n l.sub) (η t):=rfl;have bz:u<=1000000:=by rw[ae,an.1];omega
 clear au an ae ao z hd hM bv;rw[τ];go_enter func236,ntmps236;go_wp2_with fail;have ba:=υ w (.cells (ϟ E.V r) 89);have X:Kp [] w (w.alloc (.cells (ϟ E.V r) 89)):=kF.alloc _
 go_loopw [13] (λi wr=>∃ j:Nat,j<=u/\i=.int .i64 j/\w.heap.size<wr.heap.size/\Hid (BS wr M (c+meas (λl:Lnk (Tn n)=>qB1 n l.sub) ((η t).take j)) (((η t).take j).foldl (qF9 (qF6 n)) ks))/\Hid (E.Dev wr)/\Hid (Kp (M::E.S) w wr)/\Hid (Ϙ wr w.heap.size (.cells (ϟ E.V r) 89))) (λi _=>u-(intOf i).toNat)
 case atStart=>exact⟨0,zL _,rfl,sM,by show BS _ _ _ _;simpa [qD1] using I.kp X sM,(Env.To.of0 F X).dev,X.mono sM,ba⟩
 case round=>
  obtain⟨j,hj,rfl,b7,ax,av,G,ay⟩:=hrel;clear q2 ba X;have ac:=zD5 E F I.out;have a9:=G.out.heap V (qQ9 E F I V dC);by_cases b0:j<u
  .have ad:j<d.length:=by have:=H.out;omega
   have P:j<(η t).length:=by rw[<-Q.out.1];exact ad
   obtain⟨gb,C,bx,cur,fq,hv,bs,ar,bc⟩:=bq.out.link oM;obtain⟨c0,c1,c2,c3⟩:=bc j ad;simp only[vJ,true_and] at hv;obtain⟨rfl,rfl⟩:=hv;have B:=G.out.heap ar (qQ9 E F I ar dC);have a0:=ξ B (C+j*4);have a1:=ξ B (C+j*4+1);have a2:=ξ B (C+j*4+2);have a3:=ξ B (C+j*4+3);rw[c0] at a0;rw[c1] at a1;rw[c2] at a2;rw[c3] at a3;have bt:=ζ B;have be:(j:Int)<(u:Int):=oM
   have bo:=zh (RL.keep (Q.2 j ad P) G ac);have ap:=qL3 (λl:Lnk (Tn n)=>qB1 n l.sub) (η t) j P;have b1:=zA6 (λl:Lnk (Tn n)=>qB1 n l.sub) (η t) j P;have b2:1<=qB1 n (η t)[j].sub:=by cases n<;>simp[qB1]
   have bd:((η t).take (j+1)).foldl (qF9 (qF6 n)) ks=qF9 (qF6 n) (((η t).take j).foldl (qF9 (qF6 n)) ks) (η t)[j]:=by rw[tA P,List.foldl_append];rfl
   have ag:=zh bd;clear bc bs ar c0 c1 c2 c3 bd;go_wp2_with fail;obtain⟨w1,bk,ak,y,b5⟩:=qD5 wr (.cells #[.string d[j].key,ϊ d[j].b,.int .u64 d[j].s,.pointer d[j].ptr] 87);rw[<-bk];clear bk a0 a1 a2 a3 B bt be;have Z:=ax.out.kp y sM;have a4:=(Env.To.of0 av y).dev;refine (show Calls _ _ _ _ _ from zY6 hO n M _ _ d[j] (η t)[j] w1 Z (RL.keep bo y (Apt.nil _ _)) oM).mono ?_;rintro e D ⟨go,bl,rfl,a7,A,bj⟩;have bh:OffD w1 [M]:=λk hk c t J e=>by
    obtain⟨es,cl,m⟩:=Z.at;rw[mS hk,m] at e;cases e
   have a5:=E.keepX _ _ _ a4 A bh;have Y:=(G.tr y).tr A;have aa:=Y.heap V (qQ9 E F I V dC);have b3:=ζ aa;have q0:=ξ aa 0;simp only[χ,zG,zH,zI] at q0;have aq:∀ k c t J,Ϙ w1 k (.cells c t J)->k ∉ [M]:=λk c t J e hm=>by
    obtain⟨es,cl,m⟩:=Z.at;rw[<-mS hm,e] at m;cases m
   have bb:=A.heap (y.hp ay) (aq _ _ _ _ (y.hp ay));have az:=A.heap ak (aq _ _ _ _ ak);have b6:=A.size;have ai:=zh bj;have U:=zh a7;have R:=zh a5;have ah:=zh Y;have aj:=zh bb;have bp:=zh (RL.keep (Q.2 j ad P) Y ac);have bm:=zh az;have bn:=zh aa;clear bj a7 a5 Y aa bb az aq bh y A Z a4 ak ac a9
   cases go with
   | false=>
    go_wp2;exact⟨⟨j+1,oM,by go_num,oM,by show BS _ _ _ _;rw[ag.out,ai.out,ap];exact U.mono oM,R,ah,aj⟩,by simp[intOf];omega⟩
   | true=>
    by_cases bw:n=0
    .have bu:¬(1:Int)<v:=by have:=H.out;omega
     go_wp2;refine⟨⟨j+1,oM,by go_num,oM,?_,R,ah,aj⟩,by simp[intOf];omega⟩;show BS _ _ _ _;rw[ag.out,ai.out,ap];subst bw;exact U.mono oM
    .have bu:(1:Int)<v:=by have:=H.out;omega
     go_wp2_with fail;have g:Ϙ D.drew w.heap.size (.cells (ϟ E.V r) 89)/\Ϙ D.drew wr.heap.size (.cells #[.string d[j].key,ϊ d[j].b,.int .u64 d[j].s,.pointer d[j].ptr] 87)/\Ϙ D.drew q (χ v (.slice none 0 0) (.slice (some ⟨gb,C,none⟩) u lc)):=⟨aj,bm,bn⟩;refine wp_region_held_drew (S:=λW=>Ϙ W w.heap.size (.cells (ϟ E.V r) 89)/\Ϙ W wr.heap.size (.cells #[.string d[j].key,ϊ d[j].b,.int .u64 d[j].s,.pointer d[j].ptr] 87)/\Ϙ W q (χ v (.slice none 0 0) (.slice (some ⟨gb,C,none⟩) u lc))) kR g (λ_=>?_);refine zU 0 (.map (some M)) g ?_;refine zV 1 (.agg (ϟ E.V r)) rfl (λW f=>by have a:=ξ f.1;clear f;go_simp) g ?_;refine zV 2 (.agg (ϟ E.V r)) rfl (λW f=>by have a:=ξ f.1;clear f;go_simp) g ?_;refine zV 3 (.agg #[.string d[j].key,ϊ d[j].b,.int .u64 d[j].s,.pointer d[j].ptr]) rfl (λW f=>by have a:=ξ f.2.1;clear f;go_simp) g ?_;refine zP 4 q 0 g ?_;refine zV 5 (ϖ q) rfl (λW f=>by have c:=ζ f.2.2;clear f;go_simp) g ?_;refine zP 6 q 0 g ?_;refine zV 7 (ϊ v) rfl (λW f=>by have a:=ξ f.2.2 0;simp only[χ,zG,zH,zI] at a;clear f;go_simp) g ?_;refine zq 8 λK hK=>?_;go_simp;have N:Kp [] D D.drew:=kF.drew;have O:=Env.To.of0 R N;refine (show Calls _ _ _ _ _ from qK6 E.toEnv n d[j] r (η t)[j] v D.drew O.dev (RL.keep bp N (Apt.nil _ _)) (by have:=H.out;omega)).mono ?_;rintro e w3 ⟨q3,rfl,bi,p⟩;have al:BS w3 M _ bl:=(U.kp N sM).kp p.kp (by obtain⟨es,cl,m⟩:=U.out.at;exact E.ninM R m);have o:=And.intro (E.stay O.dev p g.1 dC) (And.intro (E.stay O.dev p g.2.1 dC) (E.stay O.dev p g.2.2 dC));refine zk hK o ?_
     refine zq 9 λK hK=>?_;go_simp;refine (show Calls _ _ _ _ _ from IH (η t)[j].sub q3 M _ bl r w3 p.dev bi al oM).mono ?_;rintro e w4 ⟨rfl,a8,a6,L⟩;have af:∀ {k:Nat} {c:Array Value} {tt:TypeId} {J:Nat × Nat},Ϙ w3 k (.cells c tt J)->tt ∉ qO2->k ∉ M::E.S:=λh1 m=>qQ9 E p.dev al h1 m;have ab:=And.intro (L.heap o.1 (af o.1 dC)) (And.intro (L.heap o.2.1 (af o.2.1 dC)) (L.heap o.2.2 (af o.2.2 dC)));refine hK.out _ _ ab (λ_=>?_);refine zd ?_
     try simp only[zZ]
     have T:=zh (n4 a8 a6 (((ah.tr N).trans p.kp (λi hi _=>mM _ hi)).trans L (λi hi _=>hi)) (ζ ab.1));have br:=zh ab.1;clear a8 a6 L ab o al p bi O N g af;go_wp2;refine⟨⟨j+1,oM,by go_num,T.2.2.2,?_,T.2.1,T.2.2.1,br⟩,by simp[intOf];omega⟩;show BS _ _ _ _;rw[ag.out,ai.out,ap];exact T.1.mono oM
  .have be:¬(j:Int)<(u:Int):=oM
   have bf:(η t).take j=η t:=tL (by rw[<-Q.out.1];have:=H.out;omega);have am:=ax.out;rw[bf] at am;have aw:Hid (BS wr M (c+(qB1 (n+1) t-1)) (qF6 (n+1) t ks)):=am.mono (by rw[bg];omega);clear am bf ac a9;go_wp2
   go_end0
   exact⟨rfl,by first | exact aw | (have h:=aw.out;rw[bg,Nat.add_sub_cancel_left] at h;exact h),av,G⟩
theorem zX8(E:SEnv)(a:∀ (n b:Nat) (s:Int) (t:Tn n),E.O n b s t->b<=1000000):∀ n,zC6 E n
 | 0=>xZ2 E
 | n+1=>xZ1 E a n (zX8 E a n)
def qC4(N:Nat)(ks:List Nat):List Nat:=(List.range' 2 (N-2)).filter (fun k=>decide (k ∉ ks))
theorem jL6(ks)(i:Nat):qC4 (2+(i+1)) ks=qC4 (2+i) ks++(if 2+i∈ks then [] else [2+i]):=by
 unfold qC4;rw[show 2+(i+1)-2=i+1 from by omega,show 2+i-2=i from by omega,List.range'_concat,List.filter_append]
 congr 1
 by_cases h:2+i∈ks<;>simp[h]
theorem jL7(ks)(k:Nat)(h:2<=k):qC4 (k+1) ks=qC4 k ks++(if k∈ks then [] else [k]):=by
 have e:=jL6 ks (k-2);rw[show 2+(k-2+1)=k+1 from by omega,show 2+(k-2)=k from by omega] at e;exact e
theorem xE0(N:Nat)(ks):(qC4 N ks).length<=N:=by
 unfold qC4;refine lT (List.length_filter_le _ _) ?_;simp
theorem jO4(a)(b:Nat):qH6 (a++[b])=qH6 a++[.int .i64 (b:Int)]:=by simp[qH6]
theorem jN7:(prog.info? 3).map (λi=>(i.zero,i.size,i.bytes))=some (some (.int .i64 0),1,8):=kR
theorem jY3(M c V A N:Nat)(ks)(w)(n:BS w M c ks)(o:w.heap[V]?=some (qE4 A N))(H:2<=N)(U:N<=1000):
  Calls prog 171 #[.map (some M),.pointer (some ⟨V,0,none⟩)] w λe g=>∃ v,e=.returned v/\Slc g 3 1 v (qC4 N ks).length (qH6 (qC4 N ks))/\Kp [] w g:=by
 obtain⟨R,I,O,P,Q⟩:=info_parts jN7;have C:=zh n;have G:=zh o;clear n o;go_enter func171,ntmps171;go_wp2_with fail
 go_loopw [5,6] (λs i wr=>∃ (k:Nat),2<=k/\k<=N/\i=.int .i64 (k:Int)/\Hid (wr.ownsRow w.heap.size 3 1 s (qC4 k ks).length (qH6 (qC4 k ks)))/\Hid (Kp [] w wr)) (λ_ i _=>N-(intOf i).toNat)
 case atStart=>exact⟨2,Nat.le_refl _,H,rfl,World.ownsRow_nil _ _ _ _,Kp.refl _ _⟩
 case round=>
  obtain⟨k,K,X,rfl,f,a⟩:=hrel;go_wp2_with fail;refine (zC2 V A N wr (a.hp G)).mono ?_;rintro e g ⟨rfl,y⟩;rw[y];clear y g;by_cases Y:k<N
  .have t:=(C.kp a sM).look (k:=k) oM;have J:(k:Int)<(N:Int):=oM
   have m:=zh (jL7 ks k K);have W:=xE0 k ks;by_cases b:k∈ks
   .have d:decide (k∈ks)=true:=by simp[b]
    rw[d] at t;have h:=f.out;rw[show qC4 k ks=qC4 (k+1) ks from by rw[m.out,if_pos b,List.append_nil]] at h;have D:=Hid.mk' h;clear h;clear d b;go_wp2;refine⟨⟨k+1,oM,oM,by go_num,D.alloc _,a.alloc _⟩,by simp[intOf];omega⟩
   .have d:decide (k∈ks)=false:=by simp[b]
    rw[d] at t;have z:Hid (qC4 (k+1) ks=qC4 k ks++[k]):=by show _=_;rw[m.out,if_neg b]
    clear d b
    go_wp2_with (at_builtin;refine wpList_append_own _ rfl _ _ 24 rfl w.heap.size 3 R (ϊ 0) 1 8 underlying24 I O P Q rfl dC _ _ _ rfl ((f.alloc _).alloc _) ⟨wr.heap.size+1,0,none⟩ 1 1 [ϊ (k:Int)] rfl rfl ?_ (by simp[Value.oneCell']) (by unfold maxLen;omega) oM (by have:=a.out.size;simp;omega) ?_)
    .intro j u l
     cases j with
     | zero=>
      simp only[zH,Option.some.injEq] at l;subst l;simp[Addr.add]
     | succ j=>simp at l
    .intro S T x p _;have E:Hid (T.ownsRow w.heap.size 3 1 S (qC4 (k+1) ks).length (qH6 (qC4 (k+1) ks))):=by
      show World.ownsRow _ _ _ _ _ _ _;rw[z.out,jO4,List.length_append];exact x
     have B:=zh (((a.alloc _).alloc _).grown p (λq L=>Or.inr (qI4 f q L)));clear x p;go_wp2;exact⟨⟨k+1,oM,oM,by go_num,E,B⟩,by simp[intOf];omega⟩
  .have J:¬(k:Int)<(N:Int):=oM
   have r:k=N:=oM
   have h:=f.out;rw[r] at h;have F:=Hid.mk' h;clear h;clear r;go_wp2;go_ret;exact⟨_,rfl,qJ3 F,a⟩
def tcs(V:Nat)(h:HL):List Value:=[.pointer (some ⟨V,0,none⟩),.string h.key,.int .i64 h.b,.int .u64 h.s,.pointer h.ptr]
def qM5(V:Nat)(hs:List HL):List Value:=hs.flatMap (tcs V)
theorem kL5(V:Nat)(hs)(i k:Nat)(b:i<hs.length)(c:k<5):(qM5 V hs)[i*5+k]?=(tcs V hs[i])[k]?:=by
 have h:=xD5 (tcs V) 5 hs (λx _=>rfl) i b;have a:=congrArg (λz=>z[k]?) h;simp only[List.getElem?_take,if_pos c,List.getElem?_drop] at a;exact a
theorem Slc.tree{V:Nat}{w}{v}{hs}(h:Slc w 89 5 v hs.length (qM5 V hs))(o:1<=hs.length):
  ∃ g a cap cur d,v=.slice (some ⟨g,a,none⟩) hs.length cap/\hs.length<=cap/\w.heap[g]?=some (.cells cur 89 d)/\∀ i (h:i<hs.length),cur[a+i*5]?=some (.pointer (some ⟨V,0,none⟩))/\cur[a+i*5+1]?=some (.string hs[i].key)/\cur[a+i*5+2]?=some (.int .i64 hs[i].b)/\cur[a+i*5+3]?=some (.int .u64 hs[i].s)/\cur[a+i*5+4]?=some (.pointer hs[i].ptr):=by
 rcases h.val with⟨m,_⟩|⟨g,a,cap,cur,d,e,n,f,j,l⟩
 .omega
 .have c:∀ i (b:i<hs.length) k (hk:k<5) u,(tcs V hs[i])[k]?=some u->cur[a+i*5+k]?=some u:=λi b k hk u hu=>by
   rw[Nat.add_assoc];exact l _ _ ((kL5 V hs i k b hk).trans hu)
  exact⟨g,a,cap,cur,d,e,f,j,λi b=>⟨c i b 0 oM _ rfl,c i b 1 oM _ rfl,c i b 2 oM _ rfl,c i b 3 oM _ rfl,c i b 4 oM _ rfl⟩⟩
def qA7(ks:List Nat):Root→List Nat
 | .none=>ks
 | .at n l=>qF9 (qF6 n) ks l
def qD2:Root→Nat
 | .none=>0
 | .at n l=>qB1 n l.sub
theorem zX1(E:SEnv)(hO:∀ (n b:Nat) (s:Int) (t:Tn n),E.O n b s t->b<=1000000)(M c:Nat)(ks:List Nat)(v:Value)(d:List HL)(rs:List Root)(w:World)(hd:E.Dev w)(r:Slc w 89 5 v d.length (qM5 E.V d))(hl:d.length=rs.length)(hr:∀ i (h1:i<d.length) (x:i<rs.length),RR E.toEnv w d[i] rs[i]/\(∀ n l,rs[i]=.at n l->l.key=⟨#[]⟩))(hM:BS w M c ks)(hc:c+meas qD2 rs<1000000)(hn:d.length<=1000):
  Calls prog 170 #[.map (some M),v] w λe F=>e=.returned (.tuple #[])/\BS F M (c+meas qD2 rs) (rs.foldl qA7 ks)/\E.Dev F/\Kp (M::E.S) w F:=by
 obtain⟨bs,cp,rfl⟩:=qK2 r;obtain⟨u,aj⟩:=eX d.length;have HV:=zh r;rw[<-aj];have aa:=zh (n2 aj hl);have HR:=zh hr;have T:=zh hd;have HM:=zh hM;have bm:u<=1000:=oM
 clear r aj hl hr hd hM hn;go_enter func170,ntmps170;go_wp2_with fail
 go_loopw [8] (λi wr=>∃ j:Nat,j<=u/\i=.int .i64 j/\Hid (BS wr M (c+meas qD2 (rs.take j)) ((rs.take j).foldl qA7 ks))/\Hid (E.Dev wr)/\Hid (Kp (M::E.S) w wr)) (λi _=>u-(intOf i).toNat)
 case atStart=>exact⟨0,zL _,rfl,by show BS _ _ _ _;simpa [qD1] using HM.out,T,Kp.refl _ _⟩
 case round=>
  obtain⟨j,hj,rfl,ao,am,Z⟩:=hrel;by_cases bn:j<u
  .have a6:j<d.length:=by have:=aa.out;omega
   have O:j<rs.length:=by have:=aa.out;omega
   obtain⟨gb,D,bl,cur,fq,r,bi,al,ay⟩:=HV.out.tree oM;obtain⟨c0,c1,c2,c3,c4⟩:=ay j a6;simp only[vJ,true_and] at r;obtain⟨rfl,rfl⟩:=r;have o:=Z.out.heap al (qQ9 E T.out HM.out al dC);have a0:=ξ o (D+j*5);have a1:=ξ o (D+j*5+1);have a2:=ξ o (D+j*5+2);have a3:=ξ o (D+j*5+3);have a4:=ξ o (D+j*5+4);rw[c0] at a0;rw[c1] at a1;rw[c2] at a2;rw[c3] at a3;rw[c4] at a4;have bj:=ζ o;have az:(j:Int)<(u:Int):=oM
   have P:=qL3 qD2 rs j O;have bk:=zA6 qD2 rs j O;have Y:Hid ((rs.take (j+1)).foldl qA7 ks=qA7 ((rs.take j).foldl qA7 ks) rs[j]):=by show _=_;rw[tA O,List.foldl_append];rfl
   clear ay bi al c0 c1 c2 c3 c4;go_wp2_with fail;obtain⟨Q,bc,G,y,bq⟩:=qD5 wr (.cells #[ϖ E.V,.string d[j].key,ϊ d[j].b,.int .u64 d[j].s,.pointer d[j].ptr] 89);rw[<-bc];clear bc a0 a1 a2 a3 a4 o bj az;have J:=ao.out.kp y sM;have H:=(Env.To.of0 am.out y).dev;have A:=Z.out.tr y;have C:=zD5 E T.out HM.out;obtain⟨m,ai⟩:=HR.out j a6 O
   cases hrj:rs[j] with
   | none=>
    rw[hrj] at m;have hz:d[j]=⟨⟨#[]⟩,0,0,none⟩:=m;refine (show Calls _ _ _ _ _ from (by have h:=zE6 E.V Q;rw[<-hz] at h;exact h:Ω 92 #[τ E.V d[j]] Q λe F=>e=ϱ (.bool true)/\Kp [] Q F)).mono ?_;rintro e w2 ⟨rfl,f⟩;have V:=zh (n3 (J.kp f sM) ((Env.To.of0 H f).dev) (A.tr f));have g:=f.hp G;have bh:=ζ g;clear J H A f y G g m ai hz C;go_wp2;refine⟨⟨j+1,oM,by go_num,?_,V.out.2.1,V.out.2.2⟩,by simp[intOf];omega⟩;show BS _ _ _ _;rw[Y.out,hrj,P,hrj];exact V.out.1.mono (by simp[qD2])
   | «at» n l=>
    rw[hrj] at m;have a9:=RL.keep m A C;refine (show Calls _ _ _ _ _ from qZ0 E.toEnv n d[j] l Q a9 (ai n l hrj)).mono ?_;rintro e w2 ⟨rfl,f⟩;have L:=J.kp f sM;have ar:=(Env.To.of0 H f).dev;have ad:=A.tr f;have g:=f.hp G;have bh:=ζ g;have ba:=RL.keep m ad C;have d1:=ξ g;rw[hrj] at bk P;clear J H A f y G ai a9;have bo:1<=qD2 (.at n l):=by simp only[qD2];cases n<;>simp[qB1]
    go_wp2_with fail;refine (show Calls _ _ _ _ _ from zY6 hO n M _ _ d[j] l w2 L ba oM).mono ?_;rintro e R ⟨go,bd,rfl,aw,I,bb⟩;have ak:∀ {S:List Nat} {W:World} {cc:Nat} {kk:List Nat} {k:Nat} {c:Array Value} {t:TypeId} {fr:Nat × Nat},BS W M cc kk->Ϙ W k (.cells c t fr)->k ∉ [M]:=λhB e hm=>by
     obtain⟨es,cl,x⟩:=hB.at;rw[<-mS hm,e] at x;cases x
    have a7:OffD w2 [M]:=λk hk c t fr e=>absurd hk (ak (S:=[]) L e);have au:=E.keepX _ _ _ ar I a7;have ae:=ad.tr I;have aq:=I.heap g (ak (S:=[]) L g);have ap:=zh bb;have ab:=zh aw;have U:=zh au;have an:=zh ae;have bg:=zh (RL.keep m ae C);have be:=zh aq;clear bb aw au ae aq ak a7 I L ar ad g ba C m d1
    cases go with
    | false=>
     go_wp2;refine⟨⟨j+1,oM,by go_num,?_,U,an⟩,by simp[intOf];omega⟩;show BS _ _ _ _;rw[Y.out,hrj,P,qA7,ap.out];exact ab.out.mono oM
    | true=>
     go_wp2_with fail;have p:Ϙ R.drew wr.heap.size (.cells #[ϖ E.V,.string d[j].key,ϊ d[j].b,.int .u64 d[j].s,.pointer d[j].ptr] 89):=be.out;refine wp_region_held_drew (S:=λW=>Ϙ W wr.heap.size (.cells #[ϖ E.V,.string d[j].key,ϊ d[j].b,.int .u64 d[j].s,.pointer d[j].ptr] 89)) kR p (λ_=>?_);refine zU 0 (.map (some M)) p ?_;refine zV 1 (.agg #[ϖ E.V,.string d[j].key,ϊ d[j].b,.int .u64 d[j].s,.pointer d[j].ptr]) rfl (λW B=>by have a:=ξ B;clear B;go_simp) p ?_;refine zV 2 (.agg #[ϖ E.V,.string d[j].key,ϊ d[j].b,.int .u64 d[j].s,.pointer d[j].ptr]) rfl (λW B=>by have a:=ξ B;clear B;go_simp) p ?_;refine zq 3 λK hK=>?_;go_simp;have z:Kp [] R R.drew:=kF.drew;have ah:=Env.To.of0 U.out z;refine (show Calls _ _ _ _ _ from zC0 E.toEnv n d[j] l R.drew ah.dev (RL.keep bg.out z (Apt.nil _ _))).mono ?_;rintro e w4 ⟨q4,rfl,a8,q⟩;have af:BS w4 M _ bd:=(ab.out.kp z sM).kp q.kp (by obtain⟨es,cl,x⟩:=ab.out.at;exact E.ninM U.out x);have N:=E.stay ah.dev q p dC;refine zk hK N ?_
     refine zq 4 λK hK=>?_;go_simp;have bp:qD2 (.at n l)=qB1 n l.sub:=rfl;refine (show Calls _ _ _ _ _ from zX8 E hO n l.sub q4 M _ bd d[j] w4 q.dev a8 af oM).mono ?_;rintro e w5 ⟨rfl,ax,av,ac⟩;refine hK.out _ _ (ac.heap N (qQ9 E q.dev af N dC)) (λ_=>?_);refine zd ?_
     try simp only[zZ]
     have X:=zh (n3 ax av (((an.out.tr z).trans q.kp (λi hi _=>mM _ hi)).trans ac (λi hi _=>hi)));clear ax av ac N af q a8 ah z p;go_wp2;refine⟨⟨j+1,oM,by go_num,?_,X.out.2.1,X.out.2.2⟩,by simp[intOf];omega⟩;show BS _ _ _ _;rw[Y.out,hrj,P,qA7,ap.out];exact X.out.1.mono oM
  .have az:¬(j:Int)<(u:Int):=oM
   have a5:rs.take j=rs:=tL (by have:=aa.out;omega);have ag:=ao.out;rw[a5] at ag;have bf:=zh ag;clear ag a5;go_wp2
   go_end0
   exact⟨rfl,bf.out,am.out,Z.out⟩
end Go.Proofs.YtdohpenfkdckiaaGreatDoor
