import Derived.Test.YtdohpenfkdckiaaGreatDoorJ20
set_option linter.all false
set_option maxRecDepth 100000
set_option maxHeartbeats 20000000
namespace Go.Proofs.YtdohpenfkdckiaaGreatDoor
open Go.Proofs.Tryz
open Go.RowKit
theorem kL1{w}{g:Nat}{a b c d e:Int}{tg}(h:w.heap[g]?=some (.cells #[.int .u8 a,.int .u8 b,.int .u8 c,.int .u8 d,.int .u8 e] tg)):
  ∃ s,Sem.run prog (convert 118 9 (.slice (some ⟨g,0,none⟩) 5 5)) w=.ok (.string s) w:=by
 rw[run_convert_bytes_string w _ _ _ _ _ _ underlying118 underlying5 underlying9];have f:=zB2 (P:=prog) (o:=0) (n:=5) h sM;have e:qA9 #[.int .u8 a,.int .u8 b,.int .u8 c,.int .u8 d,.int .u8 e] 0 5=(([a,b,c,d,e]:List Int).map (.int .u8)).toArray:=by rfl
 rw[e] at f;exact⟨_,run_bytesToString w _ _ _ _ f⟩
theorem zP4(n:Int)(w):
  Calls prog 244 #[.int .i64 n] w λe a=>∃ s,e=.returned (.string s)/\Kp [] w a:=by
 obtain⟨s,b⟩:=kL1 (υ w (.cells #[.int .u8 (n / 16777216 % 256),.int .u8 (n / 65536 % 256),.int .u8 (n / 256 % 256),.int .u8 (n % 256),.int .u8 33] 5));go_enter func244,ntmps244;go_wp2;go_ret;exact⟨_,rfl,kF.alloc _⟩
theorem kK7{P:Program}(w)(dT sT ty elem)(g dCap n:Nat)(a)(sCap:Nat)(cur)(t)(cs:List Value)
  (p:P.underlying dT=some (.slice elem)) (b:(P.info? elem).map (·.size)=some 2)
  (f:w.heap[g]?=some (.cells cur t (0,0))) (l:cs.length=n*2)
  (o:∀ j v,cs[j]?=some v->w.cell? (a.add j)=some v) (e:cs.length<=cur.size) (d:∀ v∈cs,v.oneCell'=true):
  (Builtin.copy_ #[dT,sT] ty #[.slice (some ⟨g,0,none⟩) n dCap,.slice (some a) n sCap]).run P w =
   .ok (goInt n) (w.setRow g (cs++cur.toList.drop cs.length).toArray):=by
 have k:=run_loadCells_list (P:=P) w a cs o;have c:=run_storeCells_at P g 0 t cs 0 cur w f (by simpa using e) d;have m:=l.symm;simp only[Nat.add_zero,Nat.zero_add,List.take_zero,nA] at c
 cases hq:P.info? elem with
 | none=>simp[hq] at b
 | some i=>
  have h:i.size=2:=by simpa [hq] using b
  simp[Builtin.copy_,run_underlying p,Builtin.lenOf,Builtin.firstCells,sizeOf,typeInfo,hq,h,m,k,c]
theorem kM7:(prog.info? 42).map (·.size)=some 2:=kR
theorem jS3:(prog.info? 29).map (λi=>(i.zero,i.size,i.bytes))=some (some (.slice none 0 0),1,24):=kR
theorem xN4(w)(base g:Nat)(v)(n:Nat)(xs:List Value)(u)(ty)
  (h:w.ownsRow base 29 1 v n xs) (q:n<=1000000) (d:w.heap[g]?=some (.cells #[u] 29)) (f:u.oneCell'=true) (c:base<=w.heap.size):
  ∃ a b,Sem.run prog (Builtin.append_ #[128,128] ty #[v,.slice (some ⟨g,0,none⟩) 1 1]) w=.ok a b/\b.ownsRow base 29 1 a (n+1) (xs++[u])/\w.grownBy b v.ownBlock/\∀ k,a.ownBlock=some k->v.ownBlock=some k\/w.heap.size<=k:=by
 obtain⟨p,e,l,m,o⟩:=info_parts jS3;exact xN7 (P:=prog) w base 128 ty 29 p _ 1 24 underlying128 e l m o rfl dC v n _ h ⟨g,0,none⟩ 1 1 [u] sM (λj v i=>by
  rw[qG4,ξ d];simpa using i) (by simpa using f) (by unfold maxLen;omega) oM c
theorem kK8{w}{l}{ps}{Z}(u:SPA w l ps)(o:Z.size=ps.length*2)(ty):
  ∃ d,Sem.run prog (Builtin.copy_ #[29,29] ty #[.slice (some ⟨w.heap.size,0,none⟩) ps.length ps.length,l]) (w.alloc (.cells Z 42))=.ok (.int .i64 ps.length) d/\d.heap[w.heap.size]?=some (.cells (qA3 ps).toArray 42)/\Kp [] w d:=by
 have h:=υ w (.cells Z 42);have x:=qQ9 ps;have t:Z.toList.drop (qA3 ps).length=[]:=List.drop_eq_nil_of_le sO;have key:∀ (a:Addr) (c:Nat),l=.slice (some a) ps.length c->(∀ j v,(qA3 ps)[j]?=some v->(w.alloc (.cells Z 42)).cell? (a.add j)=some v)->∃ d,Sem.run prog (Builtin.copy_ #[29,29] ty #[.slice (some ⟨w.heap.size,0,none⟩) ps.length ps.length,l]) (w.alloc (.cells Z 42))=.ok (ϊ ps.length) d/\d.heap[w.heap.size]?=some (.cells (qA3 ps).toArray 42)/\Kp [] w d:=by
  intro a c e r;have f:=kK7 (P:=prog) (w.alloc (.cells Z 42)) 29 29 ty 42 w.heap.size ps.length ps.length a c Z 42 (qA3 ps) underlying29 kM7 h x r oM (xL5 ps);rw[t,aN] at f;refine⟨_,by rw[e];exact f,by rw[setRow_heap _ _ _ _ _ _ h],(kF.alloc _).setRow sM _⟩
 rcases u.val with⟨k,b,c,e,q⟩|⟨g,C,cap,cur,z,e,A,B,m,n⟩
 .have y:=List.length_eq_zero_iff.1 k;subst y
  cases b with
  | none=>
   have s:=q rfl;subst s;have f:=run_copy_nil prog (w.alloc (.cells Z 42)) 29 29 ty 42 ⟨w.heap.size,0,none⟩ 0 0 underlying29 kR;have p:=Array.size_eq_zero_iff.1 (by simpa using o);refine⟨_,by rw[e];exact f,by rw[h,p];rfl,kF.alloc _⟩
  | some a=>exact key a c e (λj v i=>by simp[qA3] at i)
 .refine key _ cap e (λj v i=>?_);rw[qG4,ξ (ν _ m)];exact n j v i
structure HEnt where
 l:Value
 c:Value
 ps:List KV
structure Held(w:World)(base:Nat)(k:KF)(hs:List HEnt):Prop where
 li:w.ownsRow base 29 1 k.li hs.length (hs.map HEnt.l)
 wa:w.ownsRow base 29 1 k.wa hs.length (hs.map HEnt.c)
 two:∀ i,k.li.ownBlock=some i→k.wa.ownBlock≠some i
 eq:∀ x∈hs,SPA w x.l x.ps∧SPA w x.c x.ps
theorem qU3{w:World}{base n sz:Nat}{T:TypeId}{v:Value}{xs:List Value}(h:w.ownsRow base T sz v n xs):∀ i,v.ownBlock=some i->∃ c,w.heap[i]?=some (.cells c T):=by
 intro i a;rcases h.2 with⟨d,b⟩|⟨g,cap,cur,b,f,e,j⟩
 .rw[d] at a;cases a
 .rw[b] at a;simp[Value.ownBlock] at a;subst a;exact⟨_,e⟩
def zJ4(k:KF)(B base:Nat)(hs:List HEnt)(l:Value)(ps:List KV)(w w':World):Prop:=
 ∃ li' wa' c' L,w'.heap[B]?=some (kob { k with li:=li',wa:=wa' })∧Held w' base { k with li:=li',wa:=wa' } (hs++[⟨l,c',ps⟩])∧Kp L w w'∧(∀ i∈L,i=B∨k.li.ownBlock=some i∨k.wa.ownBlock=some i)∧
  (∀ i,li'.ownBlock=some i→k.li.ownBlock=some i∨w.heap.size≤i)∧(∀ i,wa'.ownBlock=some i→k.wa.ownBlock=some i∨w.heap.size≤i)
theorem xD5(B base:Nat)(k:KF)(b:List HEnt)(l)(ps)(w)(V:w.heap[B]?=some (kob k))(hH:Held w base k b)(hl:SPA w l ps)(hn:ps.length<=1000000)(hk:b.length<=100000)(hb:base<=w.heap.size):
  Calls prog 245 #[.pointer (some ⟨B,0,none⟩),l] w λe w'=>e=.returned (.tuple #[])/\zJ4 k B base b l ps w w':=by
 obtain⟨M,N,a3⟩:=hl.form;subst a3;have bg:=ζ V;have HB:=zh V;have d:=zh hH;have HL:=zh hl;clear V hH hl;go_enter func245,ntmps245
 go_wp2_with (refine xR6 (.agg #[.string ⟨#[]⟩,.string ⟨#[]⟩]) (.string ⟨#[]⟩) 2 32 underlying29 zN2 (by simp[Value.cells]) (by simp[Value.cells]) .i64 .i64 ps.length rfl rfl oM oM ?_;intro Z hZ a0)
 obtain⟨w1,an,X,r⟩:=kK8 HL hZ 3;rw[an];clear an hZ a0;have A:=r.hp HB.out;have bi:=r.size;have bh:=ζ X;have D:=qF1 d.li r (λ_ _ _ _ _ h=>by cases h);have K:=qF1 d.wa r (λ_ _ _ _ _ h=>by cases h);have a2:=World.ownsRow.lt d.li;have aq:=World.ownsRow.lt d.wa;obtain⟨pl,cl,ak⟩:=qP8 D;obtain⟨pw,cw,al⟩:=qP8 K
 -- the lists
 obtain⟨v2,E,ao,ad,C,ab⟩:=xN4 (w1.alloc (.cells #[.slice M ps.length N] 29)) base w1.heap.size k.li b.length (b.map HEnt.l) (.slice M ps.length N) 128 (World.ownsRow.alloc D _) oM (υ _ _) rfl sO;have p:=qN3 D C A dC;have ap:=World.ownsRow.kept (World.ownsRow.alloc K _) C (by
  cases e:k.wa.ownBlock with
  | none=>exact .inl rfl
  | some i=>exact .inr (λh=>d.two i h.symm e))
 obtain⟨y,z,a6⟩:=qP8 ad;subst a6;have bj:w1.heap.size+1<=E.heap.size:=by have:=((Kp.refl (k.li.ownBlock.toList) (w1.alloc (.cells #[.slice M ps.length N] 29))).grown C (λi a=>Or.inl (by simp[a]))).size;simpa using this
 obtain⟨g,a8,F,H,a4⟩:∃ g,g=E.setCell ⟨B,12,none⟩ (.slice y (b.length+1) z)/\g.heap[B]?=some (kob { k with li:=.slice y (b.length+1) z })/\Kp [B] E g/\g.heap.size=E.heap.size:=⟨_,rfl,μ p 12 _,(Kp.refl _ _).sc _,by simp[World.setCell]⟩;have W:∀ i c t m,E.heap[i]?=some (.cells c t m)->i∈[B]->t≠29:=λi c t m f o=>by
  rw[List.mem_singleton.1 o,p] at f;cases f;decide
 have aa:=qF1 ad H W;have af:=qF1 ap H W
 -- the copies
 obtain⟨v4,O,J,ae,I,ac⟩:=xN4 (g.alloc (.cells #[.slice (some ⟨w.heap.size,0,none⟩) ps.length ps.length] 29)) base g.heap.size k.wa b.length (b.map HEnt.c) (.slice (some ⟨w.heap.size,0,none⟩) ps.length ps.length) 128 (World.ownsRow.alloc af _) oM (υ _ _) rfl sO;have q:=qN3 af I F dC;obtain⟨Q,S,a7⟩:=qP8 ae;subst a7;have HE:Hid (zJ4 k B base b (.slice M ps.length N) ps w (O.setCell ⟨B,13,none⟩ (.slice Q (b.length+1) S))):=by
  show zJ4 _ _ _ _ _ _ _ _;obtain⟨P,a9,aw,Y⟩:∃ P,P=O.setCell ⟨B,13,none⟩ (.slice Q (b.length+1) S)/\P.heap[B]?=some (kob { k with li:=.slice y (b.length+1) z,wa:=.slice Q (b.length+1) S })/\Kp [B] O P:=⟨_,rfl,μ q 13 _,(Kp.refl _ _).sc _⟩;rw[<-a9];obtain⟨L,az⟩:=eX (B::(k.li.ownBlock.toList++k.wa.ownBlock.toList));have s:∀ i,i∈L↔i=B\/k.li.ownBlock=some i\/k.wa.ownBlock=some i:=λi=>by simp[az]
  have ax:=((Kp.refl L w1).alloc _).grown C (λi a=>Or.inl ((s i).2 (.inr (.inl a))));have ay:=((Kp.refl L g).alloc _).grown I (λi a=>Or.inl ((s i).2 (.inr (.inr a))));have ah:=λi a=>(s i).2 (.inl (List.mem_singleton.1 a));have aj:=((ax.trans H (λi a _=>ah i a)).trans ay (λi a _=>a)).trans Y (λi a _=>ah i a);have G:=(r.mono sM).trans aj (λi a _=>a);have av:Apt w1 L [42]:=λi a c t m e=>by
   rcases (s i).1 a with h|h|h
   .rw[h,A] at e;cases e;decide
   .obtain⟨R,n⟩:=qU3 D i h;rw[n] at e;cases e;decide
   .obtain⟨R,n⟩:=qU3 K i h;rw[n] at e;cases e;decide
  have U:Apt w L [42]:=λi a c t m e=>by
   rcases (s i).1 a with h|h|h
   .rw[h,HB.out] at e;cases e;decide
   .obtain⟨R,n⟩:=qU3 d.li i h;rw[n] at e;cases e;decide
   .obtain⟨R,n⟩:=qU3 d.wa i h;rw[n] at e;cases e;decide
  have am:∀ i,Value.ownBlock (.slice y (b.length+1) z)=some i->k.wa.ownBlock≠some i:=λi h h'=>by
   rcases ab i h with f|f
   .exact d.two i f h'
   .have:=(aq i h').2;simp at f;omega
  have ai:∀ i c t m,O.heap[i]?=some (.cells c t m)->i∈[B]->t≠29:=λi c t m f o=>by
   rw[List.mem_singleton.1 o,q] at f;cases f;decide
  have a1:=World.ownsRow.kept (World.ownsRow.alloc aa (.cells #[.slice (some ⟨w.heap.size,0,none⟩) ps.length ps.length] 29)) I (by
   cases e:Value.ownBlock (.slice y (b.length+1) z) with
   | none=>exact .inl rfl
   | some i=>exact .inr (λh=>am i e h.symm))
  have a5:SPA w1 (.slice (some ⟨w.heap.size,0,none⟩) ps.length ps.length) ps:=by
   refine⟨qQ9 ps,?_⟩;by_cases h0:ps.length=0
   .exact .inl ⟨h0,_,_,by rw[h0],λh=>by cases h⟩
   .exact .inr ⟨_,0,_,_,_,rfl,oM,Nat.le_refl _,X,λj u hj=>by simpa using hj⟩
  refine⟨_,_,.slice (some ⟨w.heap.size,0,none⟩) ps.length ps.length,L,aw,⟨?_,?_,?_,?_⟩,G,λi a=>(s i).1 a,?_,?_⟩
  .have e:=qF1 a1 Y ai;simpa using e
  .have e:=qF1 ae Y ai;simpa using e
  .intro i o h4;rcases ac i h4 with h|h
   .exact am i o h
   .have:=(World.ownsRow.lt aa i o).2;simp at h;omega
  .intro x v;rcases List.mem_append.1 v with v|v
   .exact⟨(d.eq x v).1.keep G U,(d.eq x v).2.keep G U⟩
   .rw[List.mem_singleton.1 v];exact⟨HL.keep G U,a5.keep aj av⟩
  .intro i a;exact (ab i a).imp id (λh=>by simp at h;omega)
  .intro i a;exact (ac i a).imp id (λh=>by simp at h;omega)
 have bf:=ζ q;have be:=ζ F;have bd:=ζ p;have bc:=ζ A;have ag:=ξ A 12;simp only[kob,zG,zH,zI] at ag;have T:=ξ F 13;simp only[kob,zG,zH,zI] at T;have ba:=φ p 12;have ar:=ξ p 12;simp only[kob,zG,zH,zI] at ar;have bb:=φ q 13;have au:=ξ q 13;simp only[kob,zG,zH,zI] at au;rw[ak] at ag ao;rw[al] at T J;rw[a4] at J;rw[a8] at T J;clear A p F q D K a2 aq ad C ab ap H W aa af ae I ac r X ak al
 go_wp2_with (at_builtin;first | ((with_reducible refine qL8 ?_ ?_ ao ?_);rfl;rfl) | ((with_reducible refine qL8 ?_ ?_ J ?_);rfl;rfl))
 go_end0
 exact⟨rfl,HE⟩
theorem Held.cellL{w}{base:Nat}{k:KF}{a:List HEnt}(h:Held w base k a){j:Nat}(i:j<a.length):∃ g c,k.li=.slice (some ⟨g,0,none⟩) a.length c/\a.length<=c/\g<w.heap.size/\w.cell? ⟨g,j,none⟩=some a[j].l:=by
 rcases h.li.2 with⟨l,b⟩|⟨g,cap,cur,b,m,d,f,n,o,p⟩
 .omega
 .refine⟨g,cap,b,f,ζ d,?_⟩;have e:=World.ownsRow.cells h.li (g:=g) (by rw[b];rfl) j a[j].l (by simp[i])
  rwa [qG4,Nat.zero_add] at e
theorem Held.cellW{w}{base:Nat}{k:KF}{a:List HEnt}(h:Held w base k a){j:Nat}(i:j<a.length):∃ g c,k.wa=.slice (some ⟨g,0,none⟩) a.length c/\a.length<=c/\g<w.heap.size/\w.cell? ⟨g,j,none⟩=some a[j].c:=by
 rcases h.wa.2 with⟨l,b⟩|⟨g,cap,cur,b,m,d,f,n,o,p⟩
 .omega
 .refine⟨g,cap,b,f,ζ d,?_⟩;have e:=World.ownsRow.cells h.wa (g:=g) (by rw[b];rfl) j a[j].c (by simp[i])
  rwa [qG4,Nat.zero_add] at e
theorem jZ1(B base:Nat)(k:KF)(a:List HEnt)(w)(f:w.heap[B]?=some (kob k))(o:Held w base k a)(hn:a.length<=100000)(G:∀ x∈a,x.ps.length<=1000000):
  Calls prog 84 #[.pointer (some ⟨B,0,none⟩)] w λe Y=>e=.returned (.bool true)/\Kp [] w Y:=by
 obtain⟨pl,cl,r⟩:=qP8 o.li;have ag:=ζ f;have v:=ξ f 12;have y:=ξ f 13;simp only[kob,zG,zH,zI] at v y;rw[r] at v;have m:=zh o;have V:=zh r;have HL:=zh G;clear f o r G;go_enter func84,ntmps84;go_wp2_with fail
 go_loopw [3] (λi wr=>∃ (j:Nat),j<=a.length/\i=.int .i64 j/\∃ d,wr=w.drewN d) (λi _=>a.length-(intOf i).toNat)
 case atStart=>exact⟨0,zL _,rfl,0,rfl⟩
 case round=>
  obtain⟨j,hj,rfl,d,rfl⟩:=hrel;by_cases g:j<a.length
  .have W:(j:Int)<(a.length:Int):=oM
   obtain⟨g1,Z,n,ah,al,P⟩:=m.out.cellL g;obtain⟨g2,c2,A,ai,am,Q⟩:=m.out.cellW g;rw[V.out] at n;simp only[vJ,true_and] at n;obtain⟨rfl,rfl⟩:=n;rw[A] at y;obtain⟨b,c⟩:=m.out.eq a[j] (gM g);have H:=HL.out a[j] (gM g);obtain⟨⟨lv,cv,ps⟩,L⟩:∃ x,a[j]=x:=⟨_,rfl⟩;rw[L] at P Q b c H;simp only at P Q b c H;obtain⟨lb,lc,rfl⟩:=b.form;obtain⟨wb,wc,rfl⟩:=c.form;have s:=zh (n2 b c);clear b c L A;go_wp2_with fail
   go_loopw [4] (λq wr=>∃ (z:Nat),z<=ps.length/\q=.int .i64 z/\∃ d,wr=w.drewN d) (λq _=>ps.length-(intOf q).toNat)
   case atStart=>exact⟨0,zL _,rfl,d,rfl⟩
   case round=>
    obtain⟨z,hz,rfl,d',rfl⟩:=hrel;by_cases M:z<ps.length
    .have X:(z:Int)<(ps.length:Int):=oM
     obtain⟨g3,N,aa,ac,ae,J,aj,h,E⟩:=s.out.1.at oM;obtain⟨g4,O,ab,ad,af,K,ak,l,F⟩:=s.out.2.at oM;obtain⟨R,S⟩:=E z M;obtain⟨T,U⟩:=F z M;simp only[vJ,true_and] at J K;obtain⟨rfl,rfl⟩:=J;obtain⟨rfl,rfl⟩:=K;have t:=ξ h (N+z*2);rw[R] at t;have u:=ξ h (N+z*2+1);rw[S] at u;have C:=ξ l (O+z*2);rw[T] at C;have D:=ξ l (O+z*2+1);rw[U] at D;have an:=ζ h;have ao:=ζ l;obtain⟨p,I⟩:=eY (ps[z]);rw[I] at t u C D;clear E F R S T U h l I;go_wp2_with fail
     go_quiet (fail)
     go_wp2;exact⟨⟨z+1,oM,by go_num,_,rfl⟩,by simp[intOf];omega⟩
    .have X:¬(z:Int)<(ps.length:Int):=oM
     go_wp2;exact⟨⟨j+1,oM,by go_num,_,rfl⟩,by simp[intOf];omega⟩
  .have W:¬(j:Int)<(a.length:Int):=oM
   go_wp2;go_ret;exact⟨rfl,kF.drewN _⟩
theorem zR5(q)(qs):qA3 (q::qs)=.string q.k::.string q.v::qA3 qs:=by simp[qA3,pcs]
theorem xL6:∀ (a) (i:Nat) (p),((qA3 a).set (i*2) (.string p.k)).set (i*2+1) (.string p.v)=qA3 (a.set i p)
 | [],i,p=>by simp[qA3]
 | q::a,0,p=>by simp[zR5]
 | q::a,i+1,p=>by
  have h:=xL6 a i p;rw[show (i+1)*2=i*2+1+1 by omega,zC,zR5,zR5,zC,zC,zC,zC,h]
theorem Held.keep{w w'}{base:Nat}{k:KF}{f:List HEnt}{S}(h:Held w base k f)(a:ProgS w S)(hK:Kp S w w'):Held w' base k f:=
 ⟨qF1 h.li hK (λi c t j b d e=>absurd ((a i d).2 _ _ _ b) (by rw[e];decide)),qF1 h.wa hK (λi c t j b d e=>absurd ((a i d).2 _ _ _ b) (by rw[e];decide)),h.two,
  λx g=>⟨(h.eq x g).1.keep hK (a.apt dC),(h.eq x g).2.keep hK (a.apt dC)⟩⟩
theorem kL0(w)(base g:Nat)(l)(qs)(a b)(ty)(h:OPA w base l qs)(hn:qs.length<=1000000)(N:w.heap[g]?=some (.cells #[.string a.k,.string a.v,.string b.k,.string b.v] 42))(L:base<=w.heap.size):
  ∃ f c,Sem.run prog (Builtin.append_ #[29,29] ty #[l,.slice (some ⟨g,0,none⟩) 2 2]) w=.ok f c/\SPA c l qs/\OPA c base f (qs++[a,b])/\w.grownBy c l.ownBlock:=by
 obtain⟨r,m,B,q,C⟩:=info_parts zN2;have n:∀ j u,([.string a.k,.string a.v,.string b.k,.string b.v]:List Value)[j]?=some u->w.cell? ((⟨g,0,none⟩:Addr).add j)=some u:=λj v p=>by
  rw[qG4,ξ N];simpa using p
 have R:qA3 (qs++[a,b])=qA3 qs++[.string a.k,.string a.v,.string b.k,.string b.v]:=by simp[qA3,pcs]
 have x:∀ u∈([.string a.k,.string a.v,.string b.k,.string b.v]:List Value),u.oneCell'=true:=by simp[Value.oneCell']
 obtain⟨f,c,o,V,W,_⟩:=run_append_own (P:=prog) w base 29 ty 42 r _ 2 32 underlying29 m B q C rfl dC l qs.length _ h ⟨g,0,none⟩ 2 2 [.string a.k,.string a.v,.string b.k,.string b.v] rfl n x (by unfold maxLen;omega) oM L;have K:OPA c base f (qs++[a,b]):=by
  unfold OPA;rw[R,List.length_append];exact V
 refine⟨f,c,o,?_,K,W⟩;rcases h.2 with⟨I,Q⟩|⟨i,cap,cur,p,h2,h3,J,h5,h6,h7⟩
 .have S:=List.length_eq_zero_iff.1 Q;subst S;rw[I];exact SPA.nil _
 .subst p;by_cases T:qs.length+2<=cap
  .obtain⟨X,d,D,_⟩:=run_append_fits w base 29 ty 42 r 2 underlying29 m q i qs.length cap (qA3 qs) h ⟨g,0,none⟩ 2 2 [.string a.k,.string a.v,.string b.k,.string b.v] rfl n x T;rw[o] at d;cases d;rcases D.2 with⟨F,_⟩|⟨g',Y,E,s,Z,G,e4,e5,e6,H⟩
   .cases F
   .simp only[Value.slice.injEq,Option.some.injEq,Addr.mk.injEq,and_true,true_and] at s;obtain⟨rfl,rfl⟩:=s;refine⟨qQ9 qs,?_⟩;by_cases A:qs.length=0
    .exact .inl ⟨A,_,_,by rw[A],λe=>by cases e⟩
    .refine .inr ⟨i,0,cap,E,_,rfl,oM,J,G,λj u y=>?_⟩;have z:=(List.getElem?_eq_some_iff.1 y).1;have t:(qA3 qs++[.string a.k,.string a.v,.string b.k,.string b.v])[j]?=some u:=by rw[List.getElem?_append_left z];exact y
     rw[<-H,List.getElem?_take_of_lt (by rw[qQ9] at z;omega)] at t;simpa using t
  .have M:∀ j u,(qA3 qs)[j]?=some u->w.cell? ((⟨i,0,none⟩:Addr).add j)=some u:=World.ownsRow.cells h rfl;obtain⟨v2,X,d,D,U⟩:=run_append_arg_grows w 29 ty 42 r _ 2 32 underlying29 m B q C rfl dC ⟨i,0,none⟩ qs.length cap (qA3 qs) h.1 M ⟨g,0,none⟩ 2 2 [.string a.k,.string a.v,.string b.k,.string b.v] rfl n oM (by unfold maxLen;omega) oM;rw[o] at d;cases d;exact h.sp.keep0 ((Kp.refl [] w).grown U (λk O=>by cases O))
def zC1(k:KF)(B base n:Nat)(hs:List HEnt)(S:List Nat)(l:Value)(w0 w w':World):Prop:=
 ∃ li' wa' x y L,w'.heap[B]?=some (kob { k with li:=li',wa:=wa' })∧Held w' base { k with li:=li',wa:=wa' } (hs++[x,y])∧x.ps.length≤n+2∧y.ps.length≤n+2∧Kp L w0 w'∧(∀ i∈L,i∈S∨i=B∨k.li.ownBlock=some i∨k.wa.ownBlock=some i)∧
  (∀ i,li'.ownBlock=some i→k.li.ownBlock=some i∨w0.heap.size≤i)∧(∀ i,wa'.ownBlock=some i→k.wa.ownBlock=some i∨w0.heap.size≤i)∧
  ∃ L',Kp L' w w'∧∀ i∈L',l.ownBlock=some i∨i=B∨k.li.ownBlock=some i∨k.wa.ownBlock=some i
theorem Held.apt{w}{base B:Nat}{k:KF}{j:List HEnt}{L}(h:Held w base k j)(f:w.heap[B]?=some (kob k))(g:∀ i∈L,i=B\/k.li.ownBlock=some i\/k.wa.ownBlock=some i):Apt w L [42]:=λi hi c t fr e=>by
 rcases g i hi with a|a|a
 .rw[a,f] at e;cases e;decide
 .obtain⟨d,b⟩:=qU3 h.li i a;rw[b] at e;cases e;decide
 .obtain⟨d,b⟩:=qU3 h.wa i a;rw[b] at e;cases e;decide
theorem jU9(B base:Nat)(k:KF)(q:List HEnt)(l)(ps)(S)(w0 w)(Q:w0.heap[B]?=some (kob k))(T:Held w0 base k q)(Y:ProgS w0 S)(hK:Kp S w0 w)(hl:OPA w w0.heap.size l ps)(hn:ps.length<=99000)(hk:q.length<=90000)(hb:base<=w0.heap.size):
  Calls prog 202 #[.pointer (some ⟨B,0,none⟩),l] w λe w'=>e=.returned (.tuple #[])/\zC1 k B base ps.length q S l w0 w w':=by
 obtain⟨f,c,a8⟩:=hl.form;subst a8;have R:=Y.stay hK Q dC;have bh:=ζ R;obtain⟨pl,cl,aq⟩:=qP8 T.li;have ad:=ξ R 12;simp only[kob,zG,zH,zI] at ad;rw[aq] at ad;have D:=zh (n4 Q T Y hb);have HL:=zh (n2 hl hK);have bq:wrap64 (100000*(q.length:Int))=100000*(q.length:Int):=by simp only[wrap64];omega
 obtain⟨n,ab⟩:=eY ps.length;rw[ab] at hn HL |-;clear Q T Y hK hl hb R aq;have ax:=zh ab;clear ab;go_enter func202,ntmps202;go_wp2_with fail
 go_loopw [5,6] (λi m wr=>∃ (j:Nat) (b:List KV),j<=n/\i=.int .i64 j/\Hid (b.length=n)/\OPA wr w0.heap.size (.slice f n c) b/\Kp S w0 wr/\Kp (oB (.slice f n c)).toList w wr) (λi _ _=>n-(intOf i).toNat)
 case atStart=>exact⟨0,ps,zL _,rfl,ax,HL.1,HL.2,Kp.refl _ _⟩
 case round=>
  obtain⟨j,b,hj,rfl,v,P,hK,M⟩:=hrel;by_cases au:j<n
  .have a5:(j:Int)<(n:Int):=oM
   go_wp2_with fail;refine (zP4 _ _).mono ?_;rintro e w1 ⟨s,rfl,o⟩;have y:OPA w1 w0.heap.size (.slice f n c) b:=qF1 P o (λ_ _ _ _ _ h=>by cases h);have ai:=hK.tr o;have aj:=M.tr o;rcases y.2 with⟨h0,bk⟩|⟨g,cap,cur,hv,h2,I,h4,h5,h6,h7⟩
   .have:=v.out;omega
   simp only[vJ] at hv;obtain⟨rfl,a9,rfl⟩:=hv;clear a9;have bj:=ζ I;have ap:j<b.length:=by have:=v.out;omega
   have Z:=λi u hu=>by
    have e:=World.ownsRow.cells y (g:=g) rfl i u hu
    rwa [qG4,Nat.zero_add] at e
   have a0:=Z _ _ (qR7 ap).1;have a1:=Z _ _ (qR7 ap).2;have f0:=φ I (j*2);have f1:=φ I (j*2+1);obtain⟨p,hp⟩:=eY (b[j]);rw[hp] at a0 a1;have E:Hid (OPA w1 w0.heap.size (.slice (some ⟨g,0,none⟩) n c) b/\Kp S w0 w1/\w0.heap.size<=g/\Kp [g] w w1):=⟨y,ai,h2,aj⟩;have bl:n<=c:=by have:=v.out;omega
   clear h2 I h4 h5 h6 h7 Z hp y ai o P hK M aj;go_wp2;refine⟨⟨j+1,b.set j ⟨s,⟨#[]⟩⟩,oM,by go_num,?_,?_,?_,?_⟩,by simp[intOf];omega⟩
   .show (b.set j _).length=n;rw[List.length_set];exact v.out
   .have y:w1.ownsRow w0.heap.size 42 2 (.slice (some ⟨g,0,none⟩) n c) n (qA3 b):=by have h:=E.out.1;unfold OPA at h;rw[v.out] at h;exact h
    have e2:=(World.ownsRow.stored (World.ownsRow.stored y (j*2) (.string s)).1 (j*2+1) (.string ⟨#[]⟩)).1;have e3:=xL6 b j ⟨s,⟨#[]⟩⟩;simp only at e3;rw[e3] at e2;unfold OPA;rw[List.length_set,v.out];exact e2
   .exact (E.2.1.setCell (p:=⟨g,_,none⟩) (Or.inr E.2.2.1) _).setCell (p:=⟨g,_,none⟩) (Or.inr E.2.2.1) _
   .exact (E.2.2.2.setCell (p:=⟨g,_,none⟩) sM _).setCell (p:=⟨g,_,none⟩) sM _
  .have a5:¬(j:Int)<(n:Int):=oM
   go_wp2_with fail;refine (zP4 _ _).mono ?_;rintro e w1 ⟨F,rfl,o⟩;go_wp2_with fail;refine (zP4 _ _).mono ?_;rintro e w2 ⟨G,rfl,L⟩;have U:=(hK.tr o).tr L;have X:OPA w2 w0.heap.size (.slice f n c) b:=qF1 (qF1 P o (λ_ _ _ _ _ h=>by cases h)) L (λ_ _ _ _ _ h=>by cases h);have bb:=U.size;have ak:=(M.tr o).tr L;have ba:=v.out;obtain⟨v4,C,av,an,am,aa⟩:=kL0 (w2.alloc (.cells #[.string F,.string ⟨#[]⟩,.string G,.string ⟨#[]⟩] 42)) w0.heap.size w2.heap.size (.slice f n c) b ⟨F,⟨#[]⟩⟩ ⟨G,⟨#[]⟩⟩ 29 (X.alloc _) oM (υ _ _) sO;have r:=(U.alloc _).grown aa (λi a=>Or.inr (X.low i a));have al:=(ak.alloc _).grown aa (λi a=>Or.inl (by simp[a]));have ac:=zh al;have J:=D.out.2.2.1.stay r D.1 dC;have K:=D.out.2.1.keep D.2.2.1 r;have bc:=r.size;have bi:=D.out.2.2.2;have H:Hid (Kp S w0 C/\Ϙ C B (kob k)/\Held C base k q/\SPA C v4 (b++[⟨F,⟨#[]⟩⟩,⟨G,⟨#[]⟩⟩])/\w0.heap.size<=C.heap.size/\b.length=n):=⟨r,J,K,am.sp,bc,ba⟩;clear aa am r X U bb o L P hK M ak al
   go_wp2_with (at_builtin;(with_reducible refine qL8 ?_ ?_ av ?_);rfl;rfl)
   refine (xD5 B base k q (.slice f n c) b C J K an oM oM oM).mono ?_;rintro e w5 ⟨rfl,bd,bf,c1,L1,ae,ag,t,x,z,A⟩;have ao:=H.out.2.2.2.1.keep t (H.2.2.1.apt H.2.1 x);have bp:=t.size;have a6:(q++[HEnt.mk (.slice f n c) c1 b]).length<=100000:=sO
   have a7:(b++[KV.mk F ⟨#[]⟩,KV.mk G ⟨#[]⟩]).length<=1000000:=sO
   have HV:=zh (n4 t x z A);clear J K an av t x z A;go_wp2_with fail;refine (xD5 B base { k with li:=bd,wa:=bf } _ v4 _ w5 ae ag ao a7 a6 oM).mono ?_;rintro e w6 ⟨rfl,be,bg,c2,L2,af,ah,V,W,ar,aw⟩;have HE:Hid (zC1 k B base n q S (.slice f n c) w0 w w6):=by
    show zC1 _ _ _ _ _ _ _ _ _ _;obtain⟨r,J,K,_,bn,bm⟩:=H.out;obtain⟨t,x,z,A⟩:=HV.out;obtain⟨LL,a3⟩:=eX (S++(B::(k.li.ownBlock.toList++k.wa.ownBlock.toList)));have N:∀ i,i∈LL↔i∈S\/i=B\/k.li.ownBlock=some i\/k.wa.ownBlock=some i:=λi=>by simp[a3]
    have ay:=(r.mono (λi a _=>(N i).2 (.inl a))).trans t (λi a _=>(N i).2 (.inr (x i a)));have az:=ay.trans V (λi a au=>(N i).2 (by
     rcases W i a with h|h|h
     .exact .inr (.inl h)
     .rcases z i h with d|d
      .exact .inr (.inr (.inl d))
      .omega
     .rcases A i h with d|d
      .exact .inr (.inr (.inr d))
      .omega))
    refine⟨be,bg,⟨.slice f n c,c1,b⟩,⟨v4,c2,b++[⟨F,⟨#[]⟩⟩,⟨G,⟨#[]⟩⟩]⟩,LL,af,by simpa using ah,by show b.length<=n+2;omega,sO,az,λi a=>(N i).1 a,?_,?_,?_⟩
    .intro i a;rcases ar i a with h|h
     .exact (z i h).imp id (λh=>by omega)
     .exact .inr oM
    .intro i a;rcases aw i a with h|h
     .exact (A i h).imp id (λh=>by omega)
     .exact .inr oM
    .obtain⟨LM,a4⟩:=eX ((oB (.slice f n c)).toList++(B::(k.li.ownBlock.toList++k.wa.ownBlock.toList)));have O:∀ i,i∈LM↔oB (.slice f n c)=some i\/i=B\/k.li.ownBlock=some i\/k.wa.ownBlock=some i:=λi=>by simp[a4]
     have bo:=ac.out.size;have a2:=(ac.mono (λi a _=>(O i).2 (.inl (by simpa using a)))).trans t (λi a _=>(O i).2 (.inr (x i a)));refine⟨LM,a2.trans V (λi a au=>(O i).2 ?_),λi a=>(O i).1 a⟩;rcases W i a with h|h|h
     .exact .inr (.inl h)
     .rcases z i h with d|d
      .exact .inr (.inr (.inl d))
      .omega
     .rcases A i h with d|d
      .exact .inr (.inr (.inr d))
      .omega
   clear ae ag ao af ah V W ar aw;go_wp2
   go_end0
   exact⟨rfl,HE⟩
theorem jL2{P:Program}{a:Act}{w w'}{o:Oper}{s x:Operand}{t}{vs vx v'}(b:o.op=.call { callee:=.builtin .append,args:=#[s,x],argTypes:=#[t,t] })(d:a.eval s=vs)(e:a.eval x=vx)(c:Sem.run P (Builtin.append_ #[t,t] o.type #[vs,vx]) w=.ok v' w'):Sem.run P (execOp a.eval o) w=.ok (.value v') w':=by
 unfold execOp;simp only[b,resolve,invoke,builtin,Sem.run_bind,Sem.run_pure,Result.andThen_ok,List.map_toArray,List.map_cons,List.map_nil,d,e,c]
theorem xL3(l)(ps)(w)(D:SPA w l ps)(hn:ps.length<=100000):
  Calls prog 189 #[l] w λe Z=>∃ v,e=.returned v/\OPR Z w.heap.size v ps/\Kp [] w Z:=by
 obtain⟨lb,Y,rfl⟩:=D.form;have HS:=zh D;clear D;go_enter func189,ntmps189;go_wp2_with fail
 go_loopw [3,4] (λo i wr=>∃ (j:Nat) (c:Option Addr) (d:Nat),j<=ps.length/\i=.int .i64 j/\o=.slice c j d/\OPR wr w.heap.size (.slice c j d) (ps.take j)/\Kp [] w wr) (λ_ i _=>ps.length-(intOf i).toNat)
 case atStart=>exact⟨0,none,0,zL _,rfl,rfl,OPR.nil _ _,Kp.refl _ _⟩
 case round=>
  obtain⟨j,c,d,hj,rfl,rfl,z,hK⟩:=hrel;have I:=zh z;have H:=zh hK;have af:=hK.size;by_cases P:j<ps.length
  .have aa:(j:Int)<(ps.length:Int):=oM
   obtain⟨g,b,cap,cur,J,U,ac,F,O⟩:=(HS.keep0 hK).at oM;obtain⟨x,y⟩:=O j P;simp only[vJ,true_and] at U;obtain⟨rfl,rfl⟩:=U;obtain⟨p,E⟩:=eY (ps[j]);rw[E] at x y;have HP:=zh E;have ad:=ζ F;have a:=F;clear O z hK E F;go_wp2_with fail;refine wp_region_held_drew (S:=λW=>Ϙ W g (.cells cur 42 J)) kR a (λ_=>?_);refine zU 0 (.slice c j d) a ?_;refine zU 1 (.slice (some ⟨g,b,none⟩) ps.length Y) a ?_;refine zU 2 (ϊ j) a ?_;refine zU 3 (.pointer (some ⟨g,b+j*2,none⟩)) a ?_;refine zU 4 (.pointer (some ⟨g,b+j*2,none⟩)) a ?_;refine zV 5 (.string p.k) rfl (λW f=>by have s:=ξ f (b+j*2);rw[x] at s;clear f;go_simp) a ?_;refine zU 6 (.slice (some ⟨g,b,none⟩) ps.length Y) a ?_;refine zU 7 (ϊ j) a ?_;refine zU 8 (.pointer (some ⟨g,b+j*2,none⟩)) a ?_;refine zU 9 (.pointer (some ⟨g,b+j*2+1,none⟩)) a ?_;refine zV 10 (.string p.v) rfl (λW f=>by have s:=ξ f (b+j*2+1);rw[y] at s;clear f;go_simp) a ?_;refine zU 11 (.agg #[.string p.k,.string p.v]) a ?_;obtain⟨w1,X,M,q,ae⟩:∃ w1,w1=World.drew (wr.alloc (.cells #[.string p.k,.string p.v] 284))/\Ϙ w1 wr.heap.size (.cells #[.string p.k,.string p.v] 284)/\Kp [] wr w1/\w1.heap.size=wr.heap.size+1:=
    ⟨_,rfl,υ wr _,((Kp.refl _ wr).alloc _).drew,show (wr.alloc _).heap.size=_ by simp⟩
   have m:=q.hp a;have r:OPR w1 w.heap.size (.slice c j d) (ps.take j):=qF1 I q (λ_ _ _ _ _ h=>by cases h);have ab:(ps.take j).length=j:=sO
   obtain⟨v5,G,Q,A,C⟩:=r.app wr.heap.size p 124 oM M oM;have L:=(H.tr q).grown C (λk hk=>Or.inr (r.low k hk));obtain⟨t,u,V⟩:=A.form;have T:(ps.take j++[p]).length=j+1:=sO
   rw[T] at V;subst V;have R:ps.take (j+1)=ps.take j++[p]:=by rw[tA P,HP.out]
   have n:Hid (OPR G w.heap.size (.slice t (j+1) u) (ps.take (j+1))/\Kp [] w G):=⟨by rw[R];exact A,L⟩;refine zq 12 λK hK=>?_;go_simp;rw[<-X];refine zk hK m ?_
   have B:Ϙ G g (.cells cur 42 J):=by
    refine (C.block g (ζ m) (λe=>?_)).trans m;obtain⟨c',N⟩:=qU3 r g e.symm;rw[m] at N;cases N
   refine zq 13 λK hK=>?_;refine qF3 rfl (jL2 rfl rfl rfl Q) ?_;refine zk hK B ?_
   refine zU 14 (.slice t (j+1) u) B ?_;refine zd ?_;clear a m B X M q r Q A C L x y ab T R;go_wp2;exact⟨⟨j+1,t,u,oM,by go_num,sM,n.1,n.2⟩,by simp[intOf];omega⟩
  .have aa:¬(j:Int)<(ps.length:Int):=oM
   have n:Hid (OPR wr w.heap.size (.slice c j d) ps):=by
    have h:=I.out;rw[tL oM] at h;exact h
   clear z hK;go_wp2;go_ret;exact⟨_,rfl,n,H⟩
def zV2(k:KF)(B base n:Nat)(hs:List HEnt)(S:List Nat)(R:World→Prop)(w w':World):Prop:=∃ w1 w5 l,R w1∧Kp S w w1∧Kp [] w1 w5∧(∀ i,Value.ownBlock l=some i→w.heap.size≤i)∧zC1 k B base n hs S l w w5 w'
theorem xO1(ps)(lo hi)(a:Int):(qH1 ps lo hi a).length<=ps.length:=by
 have b:=List.length_filter_le (inR lo hi) ps;have c:=List.length_take_le a.toNat (ps.filter (inR lo hi));have d:=List.length_take_le' a.toNat (ps.filter (inR lo hi));unfold qH1;omega
theorem kL8(B tb A n C:Nat)(cache)(G aa:Int)(k:KF)(f:TF)(ps)(lo hi)(z:Int)(y:Option Int)(an:y=some 5)(S)(R:World->Prop)(w)(d:LkIn w B tb A n C cache G aa k f ps)(J:ProgS w S)(ad:f.dn=true)(N:Calls prog 71 #[.pointer (some ⟨f.x,0,none⟩),.string lo,.string hi,.int .i64 z] w λe j=>∃ l v,e=.returned (.tuple #[l,v])/\ErrV j v y/\R j/\Kp S w j/\l=.slice none 0 0):
  Calls prog 134 #[.pointer (some ⟨B,0,none⟩),.pointer (some ⟨tb,0,none⟩),.string lo,.string hi,.int .i64 z] w λe j=>e=.returned (.bool true)/\qS6 R S w j:=by
 have aj:=ζ d.hB;have am:=ζ d.hT;have ag:=ζ d.hA;have g:=zh d;have m:=zh J;have H:=d.hB;have L:=d.hT;have P:=d.kA;have ab:=zh N;have q:=ξ H 0;simp only[kob,zG,zH,zI] at q;have V:=ξ L 0;simp only[tob,zG,zH,zI] at V;rw[P] at q;clear d J H L P N;go_enter func134,ntmps134;go_wp2_with fail;refine (qK6 A n C cache G aa w g.hA).mono ?_;rintro e w0 ⟨rfl,rfl⟩;go_wp2_with fail;refine (show Calls _ _ _ _ _ from ab).mono ?_;rintro e w1 ⟨l,v,rfl,U,K,h,ae⟩;have ap:=h.size;obtain⟨lb,ln,lc,af⟩:=(show ∃ a b c,l=.slice a b c from⟨_,_,_,ae⟩);subst af;have I:=m.out.stay h g.hB dC;have M:=m.out.stay h g.hT dC;have Q:=g.out.sp.keep h (m.apt dC);have O:=m.out.g0 h g.g0 oM;have E:=zh (n2 K h);clear q V K;go_wp2_with fail;refine (qJ7 v y w1 O U).mono ?_;rintro e w2 ⟨rfl,i⟩;have r:=i.hp I;have p:=i.hp M;have u:=Q.keep0 i;have ak:=ζ p;have ah:=ζ r;have D:=ξ p 1;simp only[tob,zG,zH,zI] at D;obtain⟨X,Z,Y,x⟩:=u.slc;rw[x] at D;have T:SPR w2 (.slice X Z Y) ps:=by rw[<-x];exact u
 clear x u
 go_wp2_with (go_at_call 127;refine (qH6 _ _).mono ?_;rintro e w2 ⟨rfl,rfl⟩)
 refine (xN2 (.slice X Z Y) ps lo hi z _ T (by have:=g.out.sz;omega)).mono ?_;rintro e w3 ⟨v3,rfl,ao,o⟩;have s:=o.hp r;have t:=o.hp p;have ai:=ζ s;have al:=ζ t;have F:=ξ s 10;simp only[kob,zG,zH,zI] at F;have W:=ξ t 3;simp only[tob,zG,zH,zI] at W;rw[g.out.po] at F;have ac:=zh (i.tr o);clear D I M Q O h i o r p T U s t;rw[ad] at W;go_wp2;go_ret;exact⟨sM,w1,E.1,E.2,ac⟩
theorem kL9(B tb A n C:Nat)(cache)(Y ao:Int)(k:KF)(f:TF)(ps)(base:Nat)(y:List HEnt)(lo hi)(j:Int)(P:Option Int)(a3:P=none)(S)(R:World->Prop)(w)(g:LkIn w B tb A n C cache Y ao k f ps)(hP:ProgS w S)(au:f.dn=false)(hH:Held w base k y)(ah:y.length<=90000)(hb:base<=w.heap.size)(ae:Calls prog 71 #[.pointer (some ⟨f.x,0,none⟩),.string lo,.string hi,.int .i64 j] w λe m=>∃ l v,e=.returned (.tuple #[l,v])/\ErrV m v P/\R m/\Kp S w m/\OPA m w.heap.size l (qH1 ps lo hi j)):
  Calls prog 134 #[.pointer (some ⟨B,0,none⟩),.pointer (some ⟨tb,0,none⟩),.string lo,.string hi,.int .i64 j] w λe m=>e=.returned (.bool true)/\zV2 k B base (qH1 ps lo hi j).length y S R w m:=by
 have z:=zh (n3 hH ah hb);clear hH ah hb;have az:=ζ g.hB;have a2:=ζ g.hT;have aw:=ζ g.hA;have d:=zh g;have o:=zh hP;have Z:=g.hB;have hT:=g.hT;have ai:=g.kA;have ap:=zh ae;have E:=ξ Z 0;simp only[kob,zG,zH,zI] at E;have t0:=ξ hT 0;simp only[tob,zG,zH,zI] at t0;rw[ai] at E;clear g hP Z hT ai ae;go_enter func134,ntmps134;go_wp2_with fail;refine (qK6 A n C cache Y ao w d.hA).mono ?_;rintro e T ⟨rfl,rfl⟩;go_wp2_with fail;refine (show Calls _ _ _ _ _ from ap).mono ?_;rintro e w1 ⟨l,v,rfl,hv,hR,i,K⟩;have a6:=i.size;obtain⟨q,s,r,av⟩:=(show ∃ a b c,l=.slice a b c from by obtain⟨a,c,e⟩:=K.form;exact⟨a,_,c,e⟩);subst av;have aa:=o.out.stay i d.hB dC;have ad:=o.out.stay i d.hT dC;have ak:=d.out.sp.keep i (o.apt dC);have ag:=o.out.g0 i d.g0 oM;have D:=zh (n2 hR i);clear E t0 hR;go_wp2_with fail;refine (qJ7 v P w1 ag hv).mono ?_;rintro e w2 ⟨rfl,p⟩;have F:=p.hp aa;have x:=p.hp ad;have N:=ak.keep0 p;have a0:=ζ x;have ax:=ζ F;have Q:=ξ x 1;simp only[tob,zG,zH,zI] at Q;obtain⟨vb,vl,vc,O⟩:=N.slc;rw[O] at Q;have al:SPR w2 (.slice vb vl vc) ps:=by rw[<-O];exact N
 clear O N
 go_wp2_with (go_at_call 127;refine (qH6 _ _).mono ?_;rintro e w2 ⟨rfl,rfl⟩)
 refine (xN2 (.slice vb vl vc) ps lo hi j _ al (by have:=d.out.sz;omega)).mono ?_;rintro e w3 ⟨v3,rfl,am,t⟩;have G:=t.hp F;have J:=t.hp x;have ay:=ζ G;have a1:=ζ J;have X:=ξ G 10;simp only[kob,zG,zH,zI] at X;have t3:=ξ J 3;simp only[tob,zG,zH,zI] at t3;rw[d.out.po] at X;have V:=zh (p.tr t);clear Q aa ad ak ag i p t F x al hv G J;rw[au] at t3;have a4:=xO1 ps lo hi j;have a5:=d.out.sz;generalize aj:qH1 ps lo hi j=qs at *;have ar:=zh aj;clear aj;have L:OPA w3 T.heap.size (.slice q s r) qs:=qF1 K V (λ_ _ _ _ _ h=>by cases h);have aq:=zh L;clear K;go_wp2_with fail;refine (xL3 (.slice q s r) qs w3 L.sp oM).mono ?_;rintro e w4 ⟨v4,rfl,ac,u⟩;have an:=am.keep0 u;clear L;go_wp2_with fail;refine (xN1 v4 v3 qs qs w4 ac.sp an oM oM).mono ?_;rintro e U ⟨rfl,I⟩;have H:=(V.tr u).tr I;have ab:=D.out.2.tr H;have M:OPA U T.heap.size (.slice q s r) qs:=qF1 (qF1 aq u (λ_ _ _ _ _ h=>by cases h)) I (λ_ _ _ _ _ h=>by cases h);have af:decide (qs=qs)=true:=sM
 rw[af];have W:=zh (n2 H M.low);clear am an ac u I H af;go_wp2_with fail;refine (jU9 B base k y (.slice q s r) qs S T U d.hB z.1 o ab M oM z.2.1 z.2.2).mono ?_;rintro e w6 ⟨rfl,hD⟩;have HD:=zh hD;clear hD M ab;go_wp2;go_ret;exact⟨rfl,w1,U,.slice q s r,D.1,D.2,W.1,W.2,by rw[ar.out];exact HD⟩
end Go.Proofs.YtdohpenfkdckiaaGreatDoor
