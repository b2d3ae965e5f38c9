import Derived.Test.YtdohpenfkdckiaaGreatDoorJ23
import Derived.Test.YtdohpenfkdckiaaGreatDoorJ27
set_option linter.all false
set_option maxRecDepth 100000
set_option maxHeartbeats 20000000
namespace Go.Proofs.YtdohpenfkdckiaaGreatDoor
open Go.Proofs.Tryz
open Go.RowKit
variable {κ:Nat}
theorem kS0(k:Nat):∀ v∈(Builtin.zeroCells zeroCells115 k).toList,v=.int .u8 0:=by
 intro v hv;unfold Builtin.zeroCells at hv;simp only[Array.toList_map,List.mem_map] at hv;obtain⟨i,_,rfl⟩:=hv;have hlt:i % zeroCells115.size<zeroCells115.size:=Nat.mod_lt _ (by rw[zK4];decide);rw[getElem!_pos zeroCells115 (i % zeroCells115.size) hlt];exact zU9 _ sM
theorem kR9(k:Nat):Builtin.zeroCells zeroCells115 k=enc (List.replicate (k*128) 0):=by
 apply Array.ext';have h1:(Builtin.zeroCells zeroCells115 k).toList.length=k*128:=by rw[Array.length_toList,size_zeroCells,zK4]
 have e:=List.eq_replicate_iff.2 ⟨h1,kS0 k⟩;rw[e];simp[enc,qC0]
def pad(l:List UInt8)(N z:Nat):List UInt8:=l.take (N*128)++List.replicate (z*128) 0
theorem jZ9{l}{N z:Nat}(h:N*128<=l.length):(pad l N z).length=(N+z)*128:=by simp[pad];omega
theorem jZ8{l}{N z k:Nat}(h:N*128<=l.length)(a:k<N):ω (pad l N z) k=ω l k:=by
 unfold ω pad;rw[List.drop_append_of_le_length sO,List.take_append_of_le_length sO,List.drop_take,List.take_take]
 congr 1
 omega
theorem xV6(N C κ:Nat)(p)(l)(w)(G:N<=1000)(g:1<=N->p=some ⟨C,0,none⟩)(o:w.heap[C]?=some (.cells (enc l) 115))(f:N*128<=l.length):
  ∃ t u n a c,Sem.run prog (Builtin.append_ #[111,111] 111 #[.slice none 0 0,.slice p N κ]) w=.ok (.slice t N u) n/\Kp [] w n/\(1<=N->(t=some ⟨a,0,none⟩/\u=c.length / 128)/\w.heap.size<=a)/\(a=C\/w.heap.size<=a)/\n.heap[a]?=some (.cells (enc c) 115)/\N*128<=c.length/\∀ k,k<N->ω c k=ω l k:=by
 obtain⟨i,q,r⟩:=Option.map_eq_some_iff.1 zO1;simp only[Prod.mk.injEq] at r;obtain⟨E,D,y⟩:=r;rcases Nat.eq_zero_or_pos N with rfl|x
 .refine⟨none,0,w,C,l,?_,Kp.refl _ _,λh=>absurd h oM,.inl rfl,o,f,λk d=>absurd d oM⟩;cases p<;>simp[Builtin.append_,run_underlying underlying111,sizeOf,typeInfo,q,Builtin.lenOf,Builtin.firstCells,loadCells,loadCellsFrom]
 have g:=g x;subst g;have m:=run_append_nil (P:=prog) w 111 111 115 i (.agg zeroCells115) underlying111 q E ⟨C,0,none⟩ N κ (qC0 (l.take (N*128))) (by rw[D];simp[qC0];omega) (λj v b=>by
  have e:=ξ o j;have B:(qC0 l)[j]?=some v:=by
   unfold qC0 at b |-;rw[List.map_take,List.getElem?_take] at b;split at b
   .exact b
   .cases b
  rw[show (⟨C,0,none⟩:Addr).add j=⟨C,j,none⟩ by simp[Addr.add];omega,e];simpa [enc] using B) oM oM (by rw[y];omega)
 have H:=grownCap_ge w N 0 115;obtain⟨z,F⟩:∃ z,grownCap w N 0 115=N+z:=⟨grownCap w N 0 115-N,oM⟩;rw[F,show N+z-N=z by omega,show (Value.agg zeroCells115).cells=zeroCells115 from rfl,kR9] at m;have A:(qC0 (l.take (N*128))).toArray++enc (List.replicate (z*128) 0)=enc (pad l N z):=by simp[enc,qC0,pad]
 rw[A] at m;have s:=jZ9 (z:=z) f;exact⟨_,_,_,w.heap.size,pad l N z,m,((Kp.refl [] w).drew).alloc _,λ_=>⟨⟨rfl,by rw[s];omega⟩,lR⟩,.inr lR,υ w.drew _,by rw[s];omega,λk d=>jZ8 f d⟩
theorem zW1(A N C:Nat)(wr:Int)(l)(kb)(K J:Nat)(w)(h:Dvx A N C l wr w)(G:N<=1000)(H:N*128<=l.length):
  Calls prog 37 #[.pointer (some ⟨A,0,none⟩),.slice kb K J] w λe n=>∃ A' a c,e=.returned (.pointer (some ⟨A',0,none⟩))/\w.heap.size<=A'/\(a=C\/w.heap.size<=a)/\(1<=N->w.heap.size<=a)/\Dvx A' N a c 0 n/\N*128<=c.length/\(∀ k,k<N->ω c k=ω l k)/\Kp [] w n:=by
 obtain⟨⟨O,p,κ,m,u⟩,s⟩:=h;obtain⟨y,B,z,a,c,v,q,b,d,f,g,j⟩:=xV6 N C κ p l w G (λh=>(u h).1) s H;have o:=q.hp m;have P:=ζ m;have Q:=ζ o;have I:=q.size;have E:=ξ m 0;simp only[qJ0,zG,zH,zI] at E;have M:=ξ o 1;simp only[qJ0,zG,zH,zI] at M;have D:=zh (n5 b d f g j);clear m o u s b d f g j;go_enter func37,ntmps37
 go_wp2_with (at_builtin;(with_reducible refine qL9 ?_ ?_ v ?_);rfl;rfl)
 obtain⟨L,r,F,t⟩:=alA z (qJ0 y B N (.slice none 0 0) 0 0);rw[qJ0] at r;rw[<-r];clear r v
 go_loopw [21] (λi n=>i=.int .i64 0/\n=L) (λ_ _=>0)
 case atStart=>exact⟨rfl,rfl⟩
 case round=>
  obtain⟨rfl,x⟩:=hrel;rw[x];clear x;go_wp2;go_ret;obtain⟨b,d,f,g,j⟩:=D.out;exact⟨z.heap.size,a,c,rfl,I,d,λh=>(b h).2,⟨⟨0,y,B,F,λh=>(b h).1⟩,t.hp f⟩,g,j,q.tr t⟩
variable {κ:Nat}
theorem jX2(l)(i:Nat)(v:UInt8):One l (l.set i v):=by
 by_cases h:i<l.length
 .by_cases e:l[i]=v
  .left;rw[<-e,List.set_getElem_self]
  .right;refine⟨l.take i,l[i],v,l.drop (i+1),e,?_,?_⟩
   .rw[<-dG h,tD]
   .rw[List.set_eq_take_append_cons_drop,if_pos h]
 .left;rw[List.set_eq_of_length_le oM]
theorem jX0(l)(i k:Nat)(v:UInt8):One (ω l k) (ω (l.set i v) k):=by
 unfold ω;exact ((jX2 l i v).drop _).take _
theorem xC0(l)(i:Nat)(v:UInt8):(enc l).setIfInBounds i (.int .u8 ((v.toNat:Nat):Int))=enc (l.set i v):=by
 unfold enc qC0;rw[zA,List.map_set]
theorem kO0(A N C:Nat)(wr j:Int)(l)(w)(h:Dvx A N C l wr w)(am:N<=1000)(hl:N*128<=l.length)(an:-9223372036854775808<=j)(ao:j<=9223372036854775807):
  Calls prog 187 #[.pointer (some ⟨A,0,none⟩),.int .i64 j] w λe w'=>∃ A' C' l',e=.returned (.pointer (some ⟨A',0,none⟩))/\w.heap.size<=A'/\(C'=C\/w.heap.size<=C')/\Dvx A' N C' l' 0 w'/\N*128<=l'.length/\(∀ k,k<N->One (ω l k) (ω l' k))/\Kp [] w w':=by
 have H:=Hid.mk' (show Ω 37 #[ϖ A,.slice none 0 0] w _ from zW1 A N C wr l none 0 0 w h am hl);clear h hl;rcases Nat.eq_zero_or_pos N with rfl|hN
 .go_enter func187,ntmps187;go_wp2_with fail;refine (show Calls _ _ _ _ _ from H).mono ?_;rintro e s ⟨i,f,p,rfl,J,t,_,Y,G,M,L⟩;have HD:=Hid.mk' Y;obtain⟨⟨F,p1,a4,q,_⟩,_⟩:=Y;have al:=ζ q;have E:=ξ q 0;simp only[qJ0,zG,zH,zI] at E;clear q;go_wp2;go_ret;exact⟨i,f,p,rfl,J,t,HD,G,λk O=>absurd O oM,L⟩
 obtain⟨m,hm⟩:∃ m:Int,m=(N:Int)*128*8:=⟨_,rfl⟩;have P:(0:Int)<(N:Int)*128*8:=oM
 have au:=Int.tmod_lt_of_pos j P;have av:=Int.lt_tmod_of_pos j P;obtain⟨y,hy,ax⟩:∃ y:Nat,(wrap64 (j.tmod ((N:Int)*128*8)+(N:Int)*128*8)).tmod ((N:Int)*128*8)=(y:Int)/\y<N*1024:=by
  have hw:wrap64 (j.tmod ((N:Int)*128*8)+(N:Int)*128*8)=j.tmod ((N:Int)*128*8)+(N:Int)*128*8:=by simp only[wrap64];omega
  rw[hw];have B:=Int.tmod_nonneg ((N:Int)*128*8) (a:=j.tmod ((N:Int)*128*8)+(N:Int)*128*8) oM;have h2:=Int.tmod_lt_of_pos (j.tmod ((N:Int)*128*8)+(N:Int)*128*8) P;exact⟨_,(Int.toNat_of_nonneg B).symm,oM⟩
 have X:=zh hy;clear hy au av hm m an ao;go_enter func187,ntmps187;go_wp2_with fail;refine (show Calls _ _ _ _ _ from H).mono ?_;rintro e s ⟨i,f,p,rfl,J,_,t,⟨⟨F,p1,cp,q,hp1⟩,hC1⟩,G,M,L⟩;have t:=t hN;obtain⟨rfl,aa⟩:=hp1 hN;have al:=ζ q;have aq:f≠i:=λe=>by rw[e,q] at hC1;simp[qJ0] at hC1
 have E:=ξ q 0;simp only[qJ0,zG,zH,zI] at E;have T:=Hid.mk' q;have z:=Hid.mk' hC1;have U:=Hid.mk' G;have af:=Hid.mk' aa;have ag:=Hid.mk' M;clear q H hC1 G aa M;go_wp2_with fail;rw[X.out];clear X E;obtain⟨g,aw⟩:∃ g:Nat,g=y / 8:=⟨_,rfl⟩;obtain⟨b,hb⟩:∃ b:Nat,b=g / 128:=⟨_,rfl⟩;obtain⟨o,ho⟩:∃ o:Nat,o=g % 128:=⟨_,rfl⟩;obtain⟨u,ap⟩:∃ u:Nat,u=y % 8:=⟨_,rfl⟩;have f1:(y:Int).tdiv 8=(g:Int):=by rw[Int.tdiv_eq_ediv_of_nonneg oM];omega
 have f2:(g:Int).tdiv 128=(b:Int):=by rw[Int.tdiv_eq_ediv_of_nonneg oM];omega
 have f3:(g:Int).tmod 128=(o:Int):=by rw[Int.tmod_eq_emod_of_nonneg oM];omega
 have f4:(y:Int).tmod 8=(u:Int):=by rw[Int.tmod_eq_emod_of_nonneg oM];omega
 have a2:IntKind.i64.wrap (g:Int)=(g:Int):=by rw[wK];omega
 have a3:IntKind.i64.wrap (b:Int)=(b:Int):=by rw[wK];omega
 have ay:(b:Int)<(N:Int):=oM
 have a1:(o:Int)<128:=oM
 have az:(u:Int)<8:=oM
 have ab:b*128+o<p.length:=by have:=U.out;omega
 obtain⟨x,hx⟩:∃ x,p[b*128+o]?=some x:=⟨_,gQ ab⟩;have V:=zh hx;clear aw hb ho ap hx ab ax;obtain⟨r,ar⟩:∃ r:Int,IntKind.u8.wrap (2 ^ u)=r:=⟨_,rfl⟩;have R:0<=r/\r<256:=by rw[<-ar,IntKind.wrap_u8];omega
 have ae:=x.toNat_lt;obtain⟨v,hv⟩:∃ v:UInt8,bits BinOp.xor .u8 ((x.toNat:Nat):Int) r=((v.toNat:Nat):Int):=by
  refine⟨UInt8.ofNat (x.toNat ^^^ r.toNat),?_⟩;have B:=Nat.xor_lt_two_pow (n:=8) (x:=x.toNat) (y:=r.toNat) (by simpa using ae) sO;rw[u8_xor _ _ oM oM R.1 R.2,UInt8.toNat_ofNat',Int.toNat_natCast];omega
 clear R ae;have d:Ϙ s.drew i (qJ0 (some ⟨f,0,none⟩) cp N (.slice none 0 0) F 0):=T.out;refine wp_region_held_drew (S:=λW=>Ϙ W i (qJ0 (some ⟨f,0,none⟩) cp N (.slice none 0 0) F 0)) kR d (λ_=>?_);refine zP 0 i 0 d ?_;refine zV 1 (ϖ i) rfl (λW D=>by have c:=ζ D;clear D;go_simp) d ?_;refine zP 2 i 0 d ?_;refine zV 3 (.slice (some ⟨f,0,none⟩) N cp) rfl (λW D=>by have a:=ξ D 0;simp only[qJ0,zG,zH,zI] at a;clear D;go_simp) d ?_;refine zU 4 (ϊ (y:Int)) d ?_;refine zU 5 (ϊ (g:Int)) d ?_;refine zU 6 (ϊ (b:Int)) d ?_;refine zU 7 (ϊ (y:Int)) d ?_;refine zU 8 (ϊ (g:Int)) d ?_;refine zU 9 (ϊ (o:Int)) d ?_;refine zU 10 (.pointer (some ⟨f,b*128,none⟩)) d ?_;refine zU 11 (.pointer (some ⟨f,b*128+o,none⟩)) d ?_;refine zU 13 (ϊ (y:Int)) d ?_;refine zU 14 (ϊ (u:Int)) d ?_;refine zU 15 (.int .u8 r) d ?_;refine zU 17 (.pointer (some ⟨f,b*128,none⟩)) d ?_;refine zq 12 λK hK=>?_;have ah:=qY4 (w:=s.drew) z V.out;go_simp;refine hK.out _ _ d (λ_=>?_);clear hK K ah
 try simp only[zZ]
 refine zU 16 (.int .u8 ((v.toNat:Nat):Int)) d ?_;refine zU 18 (.pointer (some ⟨f,b*128+o,none⟩)) d ?_;refine zq 19 λK hK=>?_;have ai:=qY4 (w:=s.drew) z V.out;have ak:=ψ (show Ϙ s.drew f (.cells (enc p) 115) from z) (b*128+o);have aj:=ζ z.out;go_simp;have ad:(s.drew.setCell ⟨f,b*128+o,none⟩ (.int .u8 ((v.toNat:Nat):Int))).heap[f]?=some (.cells (enc (p.set (b*128+o) v)) 115):=by
  rw[<-xC0];exact μ z _ _
 have Q:(s.drew.setCell ⟨f,b*128+o,none⟩ (.int .u8 ((v.toNat:Nat):Int))).heap[i]?=some (qJ0 (some ⟨f,0,none⟩) cp N (.slice none 0 0) F 0):=(qB2 (λe=>aq e.symm) _ _).trans T.out;have Z:Kp [] w (s.drew.setCell ⟨f,b*128+o,none⟩ (.int .u8 ((v.toNat:Nat):Int))):=L.drew.setCell (Or.inr t) _;refine hK.out _ _ Q (λ_=>?_);clear hK K ai ak aj;refine zd ?_
 try simp only[zZ]
 have I:=Hid.mk' (And.intro ad (And.intro Q Z));clear ad Q Z;go_wp2;go_ret;have ac:(p.set (b*128+o) v).length=p.length:=List.length_set;refine⟨i,f,p.set (b*128+o) v,rfl,J,.inr t,⟨⟨_,_,cp,I.2.1,λ_=>⟨rfl,by rw[ac,af.out]⟩⟩,I.1⟩,by rw[ac];exact U,λk O=>?_,I.2.2⟩;have B:=jX0 p (b*128+o) k v;rw[ag.out k O] at B;exact B
theorem jB1(A n C:Nat)(T:Int)(l)(w)(M:Dvx A n C l T w)(Z:n<=1000)(hs:n*128<=l.length):
  Calls prog 184 #[.pointer (some ⟨A,0,none⟩)] w λe S=>e=.returned (.string ⟨(l.take (n*128)).toArray⟩)/\Kp [] w S:=by
 obtain⟨⟨V,p,κ,h,R⟩,i⟩:=M;have c0:=ξ h 0;simp at c0;have g:=ζ h;have W:=ζ i;clear h;obtain⟨D,q,y,z,B⟩:=info_parts Tryz.info5;go_enter func184,ntmps184;go_wp2_with fail;have x:=run_make (P:=prog) w 118 5 D (.int .u8 0) underlying118 q y .i64 .i64 0 ((n:Int)*128) oM oM (by rw[B];omega) oM;rw[x];clear x;rw[show (Int.toNat 0)=0 from rfl,show ((n:Int)*128).toNat=n*128 from by omega,z];obtain⟨b,o,m,L⟩:∃ b,b=w.alloc (.cells (madeCells (Value.int .u8 0).cells (n*128*1)) 5)/\Kp [] w b/\b.ownsRow w.heap.size 5 1 (.slice (some ⟨w.heap.size,0,none⟩) 0 (n*128)) 0 []:=
  ⟨_,rfl,kF.alloc _,sM,.inr ⟨w.heap.size,n*128,_,rfl,lR,υ _ _,oM,by unfold maxLen;omega,by simp[madeCells],sM⟩⟩
 rw[<-o];clear o;have I:=(m.cell (a:=⟨A,0,none⟩) g sM).trans c0;go_wp2
 go_loopw [3,17,4] (λs k _ wr=>∃ (j:Nat),j<=n/\k=.int .i64 j/\Hid (wr.ownsRow w.heap.size 5 1 s (j*128) (qC0 (l.take (j*128))))/\Hid (Kp [] w wr)) (λ_ k _ _=>n-(intOf k).toNat)
 case atStart=>exact⟨0,zL _,rfl,by show World.ownsRow _ _ _ _ _ _ _;simpa [qC0] using L,m⟩
 case round=>
  obtain⟨j,X,rfl,H,E⟩:=hrel;have f:=H.out;have hK:=E.out;have U:=(hK.cell (a:=⟨A,0,none⟩) g sM).trans c0;have K:=hK.hp i;clear I;by_cases Y:j<n
  .obtain⟨rfl,_⟩:=R oM;have r:((l.drop (j*128)).take 128).length=128:=sO
   have t:∀ k u,(qC0 ((l.drop (j*128)).take 128))[k]?=some u->wr.cell? ((⟨C,j*128,none⟩:Addr).add k)=some u:=by
    intro k u c;rw[qH0,ξ K];have d:k<128:=by have:=(gS c).1;rw[zE7,r] at this;exact this
    rw[<-c,<-qW8 (cs:=enc l) (n:=128) d,qP2];simp[enc]
   have v:∀ u∈qC0 ((l.drop (j*128)).take 128),u.oneCell'=true:=λu c=>(qJ4 _).one u (by simpa [enc] using c);have F:=zh t;have G:=zh v;clear t v
   go_wp2_with (at_builtin;go_must (refine wpList_append_own _ rfl _ _ 118 rfl w.heap.size 5 D (.int .u8 0) 1 1 underlying118 q y z B rfl dC _ _ _ rfl f ⟨C,j*128,none⟩ 128 128 (qC0 ((l.drop (j*128)).take 128)) rfl (by rw[zE7,r]) F G (by unfold maxLen;omega) oM hK.size ?_);intro v1 w1 Q O _)
   refine⟨⟨_,_,_,⟨j+1,oM,by go_num,?_,hK.grown O (λk d=>Or.inr (qI4 f k d))⟩,rfl,rfl,rfl⟩,by simp[intOf];omega⟩;have J:(j+1)*128=j*128+128:=oM
   show World.ownsRow _ _ _ _ _ _ _;rw[J,List.take_add,jG3];exact Q
  .have N:j=n:=oM
   subst N;have aa:=kE3 f;go_wp2;go_ret;exact⟨rfl,hK⟩
theorem xH0(k:Int)(n:Nat)(t)(w)(N:Calls prog 41 #[.int .i64 k] w λe r=>e=.returned (.pointer (some ⟨w.heap.size+1,0,none⟩))/\r=(w.alloc (.cells (enc (List.replicate (n*128) 0)) 115)).alloc (qM9 n w.heap.size (.slice none 0 0) 0 0))(hn:n<1000):
  Calls prog 123 #[.int .i64 k,.string t] w λe r=>e=.returned (.pointer (some ⟨w.heap.size+1,0,none⟩))/\∃ l:List UInt8,l.length=n*128/\(t.size=n*128->l=t.data.toList)/\r.heap[w.heap.size+1]?=some (qA6 n n w.heap.size (.slice none 0 0) 0 0)/\r.heap[w.heap.size]?=some (.cells (enc l) 115)/\Kp [] w r:=by
 go_enter func123,ntmps123;go_wp2_with fail;refine N.mono ?_;rintro e D ⟨rfl,u⟩;have I:Ϙ D w.heap.size (.cells (enc (List.replicate (n*128) 0)) 115):=by rw[u];exact ρ _ (υ _ _)
 have H:D.heap[w.heap.size+1]?=some (qA6 n n w.heap.size (.slice none 0 0) 0 0):=by
  rw[u];have e:=υ (w.alloc (.cells (enc (List.replicate (n*128) 0)) 115)) (qM9 n w.heap.size (.slice none 0 0) 0 0);rw[show (w.alloc (.cells (enc (List.replicate (n*128) 0)) 115)).heap.size=w.heap.size+1 by simp] at e;exact e
 have J:Kp [] w D:=by rw[u];exact (kF.alloc _).alloc _
 clear u N;obtain⟨m,P⟩:=eX t.size;have s:=zh P;clear P;go_wp2_with fail
 go_loopw [6] (λi wr=>∃ (j:Nat) (l:List UInt8),j<=m/\i=.int .i64 j/\Hid (l.length=n*128)/\Hid (l.take j=t.data.toList.take j/\j<=n*128)/\Hid (wr.heap[w.heap.size+1]?=some (qA6 n n w.heap.size (.slice none 0 0) 0 0))/\Hid (Ϙ wr w.heap.size (.cells (enc l) 115))/\Hid (Kp [] w wr)) (λi _=>m-(intOf i).toNat)
 case atStart=>exact⟨0,List.replicate (n*128) 0,zL _,rfl,List.length_replicate,⟨rfl,zL _⟩,H,I,J⟩
 case round=>
  obtain⟨j,l,hj,rfl,g,E,p,f,z⟩:=hrel;clear H I J;have A:=p.out;have aj:=ζ A;have al:((t.size:Nat):Int)=(m:Int):=by rw[s.out]
  have F:=ξ A 0;simp only[qA6,zG,zH,zI] at F;clear A;by_cases ag:j<m
  .have ac:(j:Int)<(m:Int):=oM
   by_cases ak:j<n*128
   .have ad:(j:Int)<(n:Int)*128:=oM
    have B:j<t.size:=by have:=s.out;omega
    obtain⟨b,hb⟩:∃ b:Nat,b=j / 128:=⟨_,rfl⟩;obtain⟨o,ho⟩:∃ o:Nat,o=j % 128:=⟨_,rfl⟩;have f2:(j:Int).tdiv 128=(b:Int):=by rw[Int.tdiv_eq_ediv_of_nonneg oM];omega
    have f3:(j:Int).tmod 128=(o:Int):=by rw[Int.tmod_eq_emod_of_nonneg oM];omega
    have ai:IntKind.i64.wrap (b:Int)=(b:Int):=by rw[wK];omega
    have ab:(b:Int)<(n:Int):=oM
    have ah:(o:Int)<128:=oM
    obtain⟨v,Q⟩:=eY (t[j]'B);have T:Hid (b*128+o=j):=by show _=_;omega
    have M:b*128+o<l.length:=by have:=g.out;omega
    obtain⟨x,R⟩:∃ x,l[b*128+o]?=some x:=⟨_,gQ M⟩;have X:=zh R;have U:Hid ((l.set (b*128+o) v).take (j+1)=t.data.toList.take (j+1)/\j+1<=n*128):=by
     have af:j<l.length:=by have:=g.out;omega
     have ae:j<t.data.toList.length:=by rw[Array.length_toList];exact B
     refine⟨?_,oM⟩;rw[T.out,tA (by rw[List.length_set];exact af),List.take_set_of_le lR,List.getElem_set_self,tA ae,E.out.1,<-Q];rfl
    have V:Hid (wrap64 ((j:Int)+1)=(j:Int)+1):=by show wrap64 ((j:Int)+1)=(j:Int)+1;simp only[wrap64];omega
    clear hb ho M R;go_wp2_with fail;have d:wr.drew.heap[w.heap.size+1]?=some (qA6 n n w.heap.size (.slice none 0 0) 0 0):=p.out;refine wp_region_held_drew (S:=λW=>W.heap[w.heap.size+1]?=some (qA6 n n w.heap.size (.slice none 0 0) 0 0)) kR d (λ_=>?_);refine zU 0 (ϖ (w.heap.size+1)) d ?_;refine zV 1 (ϖ (w.heap.size+1)) rfl (λW q=>by have c:=ζ q;clear q;go_simp) d ?_;refine zU 2 (ϖ (w.heap.size+1)) d ?_;refine zV 3 (.slice (some ⟨w.heap.size,0,none⟩) n n) rfl (λW q=>by have a:=ξ q 0;simp only[qA6,zG,zH,zI] at a;clear q;go_simp) d ?_;refine zU 4 (ϊ (j:Int)) d ?_;refine zU 5 (ϊ (b:Int)) d ?_;refine zU 6 (ϊ (j:Int)) d ?_;refine zU 7 (ϊ (o:Int)) d ?_;refine zU 8 (.string t) d ?_;refine zU 9 (ϊ (j:Int)) d ?_;refine zU 10 (.int .u8 ((v.toNat:Nat):Int)) d ?_;refine zU 11 (.pointer (some ⟨w.heap.size,b*128,none⟩)) d ?_;refine zU 12 (.pointer (some ⟨w.heap.size,b*128+o,none⟩)) d ?_;refine zq 13 λK hK=>?_;have Y:=qY4 (w:=wr.drew) f X.out;have aa:=ψ (show Ϙ wr.drew w.heap.size (.cells (enc l) 115) from f) (b*128+o);have Z:=ζ f.out;go_simp;have O:(wr.drew.setCell ⟨w.heap.size,b*128+o,none⟩ (.int .u8 ((v.toNat:Nat):Int))).heap[w.heap.size]?=some (.cells (enc (l.set (b*128+o) v)) 115):=by
     rw[<-xC0];exact μ f _ _
    have C:(wr.drew.setCell ⟨w.heap.size,b*128+o,none⟩ (.int .u8 ((v.toNat:Nat):Int))).heap[w.heap.size+1]?=some (qA6 n n w.heap.size (.slice none 0 0) 0 0):=(qB2 oM _ _).trans p.out;have L:Kp [] w (wr.drew.setCell ⟨w.heap.size,b*128+o,none⟩ (.int .u8 ((v.toNat:Nat):Int))):=z.out.drew.setCell (Or.inr lR) _;refine hK.out _ _ C (λ_=>?_);clear hK K Y aa Z;refine zd ?_
    try simp only[zZ]
    have y:=Hid.mk' (And.intro O (And.intro C L));clear O C L f2 f3 ai ab ah Q B d F;go_wp2
    try rw[V.out]
    exact⟨⟨j+1,l.set (b*128+o) v,oM,by go_num,by show _=_;rw[List.length_set];exact g,U,y.2.1,y.1,y.2.2⟩,by simp[intOf];omega⟩
   .have ad:¬(j:Int)<(n:Int)*128:=oM
    go_wp2;go_ret;exact⟨rfl,l,g,λh=>absurd ag (by have:=s.out;omega),p,f,z⟩
  .have ac:¬(j:Int)<(m:Int):=oM
   go_wp2;go_ret;exact⟨rfl,l,g,λh=>by have G:=E.out.1;have h2:=s.out;have h3:=g.out;rw[tL oM,tL (by rw[Array.length_toList];show t.size<=j;omega)] at G;exact G,p,f,z⟩
end Go.Proofs.YtdohpenfkdckiaaGreatDoor
namespace Go.Proofs.YtdohpenfkdckiaaGreatDoor.Gw
open Go.Proofs.Tryz
open Go.RowKit
def qN4:List TypeId:=[70,3,119]
def qO3:List TypeId:=[130,114,115,117,169,99,80,197,132,29,282,203]
def Muts(base:Nat)(Ts:List TypeId)(w:World)(L:List Nat):Prop:=∀ k∈L,base≤k∧∃ o,w.heap[k]?=some o∧∀ c t fr,o=.cells c t fr→t∈Ts
def MutC(base:Nat)(Ts:List TypeId)(w:World)(L:List Nat):Prop:=∀ k∈L,base≤k∧∃ c t fr,w.heap[k]?=some (.cells c t fr)∧t∈Ts
theorem MutC.muts{base:Nat}{Ts:List TypeId}{w}{L}(h:MutC base Ts w L):Muts base Ts w L:=λk f=>by
 obtain⟨a,c,t,i,b,d⟩:=h k f;exact⟨a,_,b,λg t' j e=>by cases e;exact d⟩
theorem Muts.nil(base:Nat)(Ts:List TypeId)(w):Muts base Ts w []:=λ_ h=>by cases h
theorem Muts.mono{base:Nat}{Ts a:List TypeId}{w}{L L'}(h:Muts base Ts w L)(l:∀ t∈Ts,t∈a)(j:∀ i∈L',i∈L):Muts base a w L':=λk hk=>by
 obtain⟨d,o,f,g⟩:=h k (j k hk);exact⟨d,o,f,λc t b e=>l t (g c t b e)⟩
theorem Muts.apt{base:Nat}{Ts Us:List TypeId}{w}{L}(h:Muts base Ts w L)(d:∀ t∈Us,t ∉ Ts):Apt w L Us:=λk hk c t fr e hm=>by
 obtain⟨f,o,a,b⟩:=h k hk;rw[e] at a;cases a;exact d t hm (b _ _ _ rfl)
theorem Muts.not{base:Nat}{Ts:List TypeId}{w}{L}(h:Muts base Ts w L){k:Nat}{c}{t}{fr}(d:w.heap[k]?=some (.cells c t fr))(f:t ∉ Ts):k ∉ L:=λe=>by
 obtain⟨g,o,a,b⟩:=h k e;rw[d] at a;cases a;exact f (b _ _ _ rfl)
theorem Muts.lt{base:Nat}{Ts:List TypeId}{w}{L}(h:Muts base Ts w L){k:Nat}(b:k∈L):k<w.heap.size:=by
 obtain⟨_,o,a,_⟩:=h k b;exact ζ a
theorem Muts.row{base a n sz:Nat}{Ts:List TypeId}{T}{w w'}{L}{v}{xs:List Value}(h:Muts base Ts w L)(hK:Kp L w w')(g:T ∉ Ts)(j:w.ownsRow a T sz v n xs):w'.ownsRow a T sz v n xs:=
 qG7 j hK λk c t l e i d=>by
  obtain⟨m,o,b,f⟩:=h k i;rw[e] at b;cases b;subst d;exact g (f _ _ _ rfl)
structure DInv where
 G:Type
 kf:G→KF
 B:G→Nat
 tbs:G→List Nat
 tur:G→List Nat
 ok:Nat→Int→World→G→Prop
 kob_:∀ {base:Nat} {T:Int} {w:World} {g:G},ok base T w g→w.heap[B g]?=some (kob (kf g))
 row:∀ {base:Nat} {T:Int} {w:World} {g:G},ok base T w g→PRow w 132 (kf g).ts (tbs g)
 tlen:∀ {base:Nat} {T:Int} {w:World} {g:G},ok base T w g→((tbs g).length:Int)≤T
 inB:∀ g,B g∈tur g
 muts:∀ {base:Nat} {T:Int} {w:World} {g:G},ok base T w g→Muts base qO3 w (tur g)
 keep:∀ {base:Nat} {T T':Int} {w w':World} {g:G} {L:List Nat},ok base T w g→Kp L w w'→Muts base (qN4++qO3) w L→(∀ i∈L,i ∉ tur g)→T≤T'→ok base T' w' g
 fresh:∀ (base:Nat) (T:Int) (w:World) (b A C m:Nat) (wl:Bool) (l:List UInt8),base≤b→base≤A→base≤C→26000≤T→m<1000→l.length=m*128→(wl=false→l=List.replicate (m*128) 0)→w.heap[b]?=some (kob ⟨A,m,.slice none 0 0,false,.slice none 0 0,wl,false,none,.slice none 0 0,0,false,.slice none 0 0,.slice none 0 0,.slice none 0 0⟩)→w.heap[A]?=some (qM9 m C (.slice none 0 0) 0 0)→w.heap[C]?=some (.cells (enc l) 115)→∃ g,ok base T w g∧B g=b∧∀ i∈tur g,i=b∨i=A∨i=C
 copy:∀ {base:Nat} {T:Int} {w:World} {g:G},ok base T w g→∃ C l wr,(kf g).n<1000∧Dvx (kf g).A (kf g).n C l wr w∧(kf g).n*128≤l.length∧
  ∀ (T':Int) (w':World) (b A' C':Nat),T≤T'→26000≤T'→Kp [] w w'→base≤b→base≤A'→base≤C'→w'.heap[b]?=some (kob ⟨A',(kf g).n,(kf g).may,(kf g).emp,(kf g).were,(kf g).wild,(kf g).bit,none,.slice none 0 0,0,false,.slice none 0 0,.slice none 0 0,.slice none 0 0⟩)→w'.heap[A']?=some (qM9 (kf g).n C' (.slice none 0 0) 0 0)→w'.heap[C']?=some (.cells (enc (l.take ((kf g).n*128))) 115)→∃ g',ok base T' w' g'∧B g'=b∧∀ i∈tur g',i=b∨i=A'∨i=C'
def qJ7(I:DInv)(ds:List I.G):List Value:=ds.map fun g=>.pointer (some ⟨I.B g,0,none⟩)
theorem zI5{I:DInv}{cur:Array Value}{a:List I.G}(h:cur.toList.take (a.length*1)=qJ7 I a)(j:Nat)(b:j<a.length):cur[j]?=some (.pointer (some ⟨I.B a[j],0,none⟩)):=by
 have e:(qJ7 I a)[j]?=some (ϖ (I.B a[j])):=by simp[qJ7,b]
 rw[<-h,List.getElem?_take_of_lt oM] at e;simpa using e
structure WOk(I:DInv)(base:Nat)(T:Int)(w:World)(Wb:Nat)(ds:List I.G):Prop where
 t0:26000≤T
 hb:0<base
 hbs:base≤w.heap.size
 g0:w.cell? ⟨0,0,none⟩=some qF5
 bW:base≤Wb
 hW:∃ pk nk ck xs pd cd,w.heap[Wb]?=some (qD6 pk nk ck pd ds.length cd)∧w.ownsRow base 3 1 (.slice pk nk ck) nk xs∧(nk:Int)≤T∧w.ownsRow base 119 1 (.slice pd ds.length cd) ds.length (qJ7 I ds)
 len:(ds.length:Int)≤T
 all:∀ g,g∈ds→I.ok base T w g
 sep:ds.Pairwise fun g h=>∀ i∈I.tur g,i ∉ I.tur h
theorem WOk.same{I:DInv}{base:Nat}{T a:Int}{w w'}{b:Nat}{c:List I.G}(h:WOk I base T w b c)(hK:Kp [] w w')(k:T<=a):WOk I base a w' b c:=by
 obtain⟨n,nk,e,xs,m,d,f,i,o,j⟩:=h.hW;exact⟨by have:=h.t0;omega,h.hb,lT h.hbs hK.size,zF6 h.g0 hK h.hb h.hbs sM,h.bW,⟨n,nk,e,xs,m,d,hK.hp f,qQ1 i hK (Apart.nil _ _),oM,qQ1 j hK (Apart.nil _ _)⟩,by have:=h.len;omega,λg l=>I.keep (h.all g l) hK (Muts.nil _ _ _) sM k,h.sep⟩
def DStep(I:DInv)(base:Nat)(T':Int)(w w':World)(g:I.G):Prop:=
 ∃ g' L,I.ok base T' w' g'∧I.B g'=I.B g∧(∀ i∈I.tur g',i∈I.tur g∨w.heap.size≤i)∧Kp L w w'∧∀ i∈L,i∈I.tur g
theorem DStep.after{I:DInv}{base:Nat}{a:Int}{w w1 w'}{g:I.G}(h:DStep I base a w w1 g)(hK:Kp [] w1 w'):DStep I base a w w' g:=by
 obtain⟨g',L,b,c,d,e,f⟩:=h;exact⟨g',L,I.keep b hK (Muts.nil _ _ _) sM (iR _),c,d,e.tr hK,f⟩
theorem DStep.from{I:DInv}{base:Nat}{b:Int}{w w1 w'}{g:I.G}(hK:Kp [] w w1)(h:DStep I base b w1 w' g)(k:Muts base qO3 w (I.tur g)):DStep I base b w w' g:=by
 obtain⟨g',L,c,d,e,f,j⟩:=h;exact⟨g',L,c,d,λi a=>(e i a).imp id (λh=>by have:=hK.size;omega),(hK.mono sM).trans f (λi a _=>a),j⟩
theorem DStep.below{I:DInv}{base:Nat}{T a:Int}{w w'}{g:I.G}(h:DStep I base a w w' g)(e:I.ok base T w g)(d:base<=w.heap.size):Below base w w':=by
 obtain⟨g',L,i,j,l,b,c⟩:=h;exact b.below d (λk f=>(I.muts e k (c k f)).1)
theorem WOk.one{I:DInv}{base:Nat}{T u:Int}{w w'}{B:Nat}{d:List I.G}(h:WOk I base T w B d)(j:Nat)(x:j<d.length)(U:DStep I base u w w' d[j])(M:T<=u):∃ G,WOk I base u w' B G:=by
 obtain⟨g',L,P,H,D,hK,v⟩:=U;obtain⟨W,nk,F,xs,V,E,n,o,X,J⟩:=h.hW;have O:=h.all d[j] (gM x);have C:=I.muts O;have p:=C.mono (λt A=>A) v;have K:Muts base (qN4++qO3) w L:=C.mono (λt A=>List.mem_append_right _ A) v;have S:qJ7 I (d.set j g')=qJ7 I d:=by
  simp only[qJ7,List.map_set,H];exact List.ext_getElem sM (λi n o=>by
   rw[List.getElem_set];split
   .rename_i h;subst h;simp
   .rfl)
 have y:=pG h.sep;have s:∀ i (f:i<d.length),∀ k∈I.tur d[i],k<w.heap.size:=λi f k c=>(I.muts (h.all _ (gM f))).lt c;have z:∀ i (f:i<d.length),j≠i->∀ k∈I.tur d[j],k ∉ I.tur d[i]:=λi f m k c l=>by
  rcases Nat.lt_or_gt_of_ne m with s|R
  .exact y j i x f s k c l
  .exact y i j f x R k l c
 refine⟨d.set j g',by have:=h.t0;omega,h.hb,lT h.hbs hK.size,zF6 h.g0 hK h.hb h.hbs (λk c=>(p k c).1),h.bW,⟨W,nk,F,xs,V,E,?_,p.row hK dC o,oM,?_⟩,by have:=h.len;simp;omega,?_,?_⟩
 .simp only[List.length_set];exact hK.heap n (p.not n dC)
 .rw[S,List.length_set];exact p.row hK dC J
 .intro g Q;obtain⟨i,f,rfl⟩:=gO Q;rw[List.getElem_set];split
  .exact P
  .rename_i m;simp only[List.length_set] at f;exact I.keep (h.all d[i] (gM f)) hK K (λk c=>z i f m k (v k c)) M
 .rw[List.pairwise_iff_getElem];intro a b q r N;simp only[List.length_set] at q r;rw[List.getElem_set,List.getElem_set];split
  .rename_i n;subst n;split
   .omega
   .rename_i m;intro k c l;rcases D k c with c|c
    .exact z b r m k c l
    .have:=s b r k l;omega
  .split
   .rename_i m o;subst o;intro k c l;rcases D k l with l|l
    .exact z a q (λe=>m e) k l c
    .have:=s a q k c;omega
   .exact y a b q r N
theorem WOk.turn{I:DInv}{base:Nat}{T e:Int}{w w'}{j:Nat}{b:List I.G}{S}(h:WOk I base T w j b)(hK:Kp S w w')(l:MutC base qN4 w S)(z:T<=e)(a:List I.G)(r:∀ g,g∈a->I.ok base e w' g/\∀ i∈I.tur g,w.heap.size<=i)(E:a.length<=1)
  (A:∃ u nk n xs s m,w'.heap[j]?=some (qD6 u nk n s (b++a).length m)/\w'.ownsRow base 3 1 (.slice u nk n) nk xs/\(nk:Int)<=e/\w'.ownsRow base 119 1 (.slice s (b++a).length m) (b++a).length (qJ7 I (b++a))) (G:((b++a).length:Int)<=e):WOk I base e w' j (b++a):=by
 refine⟨by have:=h.t0;omega,h.hb,lT h.hbs hK.size,zF6 h.g0 hK h.hb h.hbs (λk D=>(l k D).1),h.bW,A,G,?_,?_⟩
 .intro g d;rcases mA d with d|d
  .have q:=h.all g d;refine I.keep q hK (l.muts.mono (λt F=>List.mem_append_left _ F) (λi f=>f)) (λi f hm=>?_) z;obtain⟨_,c,t,H,o,v⟩:=l i f;obtain⟨_,K,p,x⟩:=I.muts q i hm;rw[o] at p;cases p;have y:=x _ _ _ rfl;have:∀ t∈qN4,t ∉ qO3:=dC
   exact this t v y
  .exact (r g d).1
 .rw[List.pairwise_append];refine⟨h.sep,?_,?_⟩
  .exact kA3 _ _ E
  .intro g d g' B i f C;have J:=(I.muts (h.all g d)).lt f;have o:=(r g' B).2 i C;omega
theorem jZ6(I:DInv)(base d:Nat)(T:Int)(g:List I.G)(x y a b:Int)(s t)(w)(h:WOk I base T w d g):
  Calls prog 78 #[.pointer (some ⟨d,0,none⟩),.agg #[.int .i64 2,.int .i64 x,.int .i64 y,.int .i64 a,.int .i64 b,.string s,.string t]] w λe l=>e=.returned (.bool true)/\(∃ ds',WOk I base (T+2) l d ds')/\Below base w l:=by
 have i:=h;obtain⟨C,nk,r,xs,q,n,c,v,z,o⟩:=h.hW;have m:=zh i;have A:=ζ c;have B:=ρ (.cells #[ϊ 2,ϊ x,ϊ y,ϊ a,ϊ b,.string s,.string t] 66) c;have p:=ξ c 0;simp only[qD6,zG,zH,zI] at p;have u:=ψ c 0;clear h i;go_enter func78,ntmps78;go_wp2;go_ret;have h:=m.out;have hK:Kp [d] w ((w.setCell ⟨d,0,none⟩ (.slice none 0 0)).alloc (.cells #[ϊ 2,ϊ x,ϊ y,ϊ a,ϊ b,.string s,.string t] 66)):=(kF.sc _).alloc _;have j:MutC base qN4 w [d]:=λk f=>by rw[mS f];exact⟨h.bW,_,_,_,c,dC⟩
 refine⟨rfl,⟨g++[],h.turn hK j oM [] sM sM ⟨none,0,0,[],q,n,?_,wN _ _ _ _,by have:=h.len;simp;omega,?_⟩ (by have:=h.len;simp;omega)⟩,hK.below h.hbs (λk f=>(j k f).1)⟩
 .rw[aN];exact ρ _ (μ c 0 _)
 .rw[aN];exact qQ1 o hK (λk f=>by rw[mS f];exact⟨_,_,_,c,dC⟩)
theorem WOk.more{I:DInv}{base:Nat}{T s:Int}{w w4 w5}{d:Nat}{b:List I.G}(h:WOk I base T w d b){pk}{nk u:Nat}{xs:List Value}{pd}{p:Nat}(j:w.heap[d]?=some (qD6 pk nk u pd b.length p))(v:w.ownsRow base 3 1 (.slice pk nk u) nk xs)(A:(nk:Int)<=T)(H:w.ownsRow base 119 1 (.slice pd b.length p) b.length (qJ7 I b))
  (B:Kp [] w w4) (g:I.G) (N:I.ok base s w4 g) (F:∀ i∈I.tur g,w.heap.size<=i) (o) {m l:Nat} (Q:w5.ownsRow base 119 1 (.slice (some ⟨m,0,none⟩) (b.length+1) l) (b.length+1) (qJ7 I b++[.pointer (some ⟨I.B g,0,none⟩)])) (G:(w4.alloc o).grownBy w5 (Value.slice pd b.length p).ownBlock) (Y:T+2<=s):
  WOk I base s (w5.setCell ⟨d,1,none⟩ (.slice (some ⟨m,0,none⟩) (b.length+1) l)) d (b++[g])/\Below base w (w5.setCell ⟨d,1,none⟩ (.slice (some ⟨m,0,none⟩) (b.length+1) l)):=by
 have y:=qJ1 H;have aa:=ζ j;generalize X:(Value.slice pd b.length p).ownBlock=r at *;have M:d ∉ r.toList:=λn=>by
  obtain⟨_,c,f⟩:=y _ n;rw[j] at f;cases f
 have C:=((B.mono (S':=r.toList) sM).alloc o).grown G (λk a=>Or.inl (by simp[a]));have D:=C.heap j M;have hK:Kp (d::r.toList) w (w5.setCell ⟨d,1,none⟩ (.slice (some ⟨m,0,none⟩) (b.length+1) l)):=(C.mono (S':=d::r.toList) (λi z _=>mM _ z)).sc _;have q:MutC base qN4 w (d::r.toList):=λk a=>by
  rcases List.mem_cons.1 a with rfl|a
  .exact⟨h.bW,_,_,_,j,dC⟩
  .obtain⟨E,c,f⟩:=y _ a;exact⟨E,_,_,_,f,dC⟩
 have L:Kp (d::r.toList) w4 (w5.setCell ⟨d,1,none⟩ (.slice (some ⟨m,0,none⟩) (b.length+1) l)):=((kF.alloc o).grown G (λk a=>Or.inl (by simp[a]))).sc _;have P:∀ k,w.heap.size<=k->k ∉ d::r.toList:=λk a n=>by
  obtain⟨_,_,_,_,f,_⟩:=q k n;have:=ζ f;omega
 have K:∀ i∈d::r.toList,i ∉ I.tur g:=λi z n=>P _ (F i n) z;have J:Muts base (qN4++qO3) w4 (d::r.toList):=λk a=>by
  obtain⟨j,c,t,V,v,A⟩:=q k a;exact⟨j,_,B.hp v,λU t' W e=>by cases e;exact List.mem_append_left _ A⟩
 have O:=I.keep N L J K (iR _);have Z:=h.len;refine⟨h.turn hK q oM [g] (λx R=>by rw[mS R];exact⟨O,F⟩) sM ⟨pk,nk,u,xs,some ⟨m,0,none⟩,l,?_,qQ1 v hK (λk a=>?_),oM,?_⟩ sO,hK.below h.hbs (λk a=>(q k a).1)⟩
 .rw[lA];exact μ D 1 _
 .rcases List.mem_cons.1 a with rfl|a
  .exact⟨_,_,_,j,dC⟩
  .obtain⟨E,c,f⟩:=y _ a;exact⟨_,_,_,f,dC⟩
 .have e:qJ7 I (b++[g])=qJ7 I b++[ϖ (I.B g)]:=by simp[qJ7]
  rw[e,lA];exact qQ1 Q (S:=[d]) (kF.sc _) (λk a=>by rw[mS a];exact⟨_,_,_,D,dC⟩)
theorem jZ3(I:DInv)(base o:Nat)(T:Int)(n:List I.G)(k x y a b:Int)(s t)(w)(h:WOk I base T w o n)(hT:T<=70000)(L:k=3\/k=4):
  Calls prog 78 #[.pointer (some ⟨o,0,none⟩),.agg #[.int .i64 k,.int .i64 x,.int .i64 y,.int .i64 a,.int .i64 b,.string s,.string t]] w λe w'=>e=.returned (.bool true)/\(∃ ds',WOk I base (T+2) w' o ds')/\Below base w w':=by
 have h':=h;obtain⟨pk,nk,P,xs,A,r,p,B,C,u⟩:=h.hW;have f:=zh h';have av:=ζ p;obtain⟨m,z,ad,af⟩:=jF9 a;have aj:=zh ad;have O:=zh af;clear h h' ad af;obtain⟨j,ai,V,ac,al,ay⟩:=alC w (.cells #[ϊ k,ϊ x,ϊ y,ϊ a,ϊ b,.string s,.string t] 66) (.cells #[.pointer none,ϊ m,.slice none 0 0,.bool false,.slice none 0 0,.bool false,.bool false,.pointer none,.slice none 0 0,ϊ 0,.bool false,.slice none 0 0,.slice none 0 0,.slice none 0 0] 130)
 have N:=hid (show Ω (if k=3 then 41 else 123) (if k=3 then #[ϊ a] else #[ϊ a,.string s]) j λe g=>e=ϱ (ϖ (w.heap.size+3))/\∃ l:List UInt8,l.length=m*128/\(k=3->l=List.replicate (m*128) 0)/\g.heap[w.heap.size+2]?=some (.cells (enc l) 115)/\g.heap[w.heap.size+3]?=some (qM9 m (w.heap.size+2) (.slice none 0 0) 0 0)/\Kp [] j g from by
  rw[show w.heap.size+3=j.heap.size+1 by omega,show w.heap.size+2=j.heap.size by omega];rcases L with rfl|rfl
  .refine (O j).mono ?_;rintro e g ⟨rfl,rfl⟩;refine⟨rfl,_,List.length_replicate,λ_=>rfl,ρ _ (υ _ _),?_,(kF.alloc _).alloc _⟩;have e:=υ (j.alloc (.cells (enc (List.replicate (m*128) 0)) 115)) (qM9 m j.heap.size (.slice none 0 0) 0 0);simpa using e
  .refine (xH0 a m s j (O j) z).mono ?_;rintro e g ⟨rfl,l,c1,_,c2,c3,c4⟩;exact⟨rfl,l,c1,λe=>absurd e dC,c3,c2,c4⟩)
 have o0:=ξ V;have am:=ζ V;clear O;go_enter func78,ntmps78;rcases L with rfl|rfl
 all_goals
  simp only[if_true,show ¬((4:Int)=3) from by decide,if_false] at N
  go_wp2_with (go_at_call 122;refine (aj _).mono ?_;rintro e w' ⟨rfl,rfl⟩)
  rw[<-ai];clear ai;refine (show Calls _ _ _ _ _ from N).mono ?_;rintro e g ⟨rfl,l,Y,ae,U,R,G⟩;have H:=al.tr G;have q:=G.hp ac;have az:=G.size;have HL:=hid (And.intro Y ae);clear Y ae G ac V o0 am N;have K:=H.hp p
 focus
  obtain⟨d,M,F,E,D,v,J,aa⟩:∃ d,d=g.setCell ⟨w.heap.size+1,0,none⟩ (ϖ (w.heap.size+3))/\d.heap[w.heap.size+1]?=some (kob ⟨w.heap.size+3,m,.slice none 0 0,false,.slice none 0 0,false,false,none,.slice none 0 0,0,false,.slice none 0 0,.slice none 0 0,.slice none 0 0⟩)/\d.heap[w.heap.size+2]?=some (.cells (enc l) 115)/\d.heap[w.heap.size+3]?=some (qM9 m (w.heap.size+2) (.slice none 0 0) 0 0)/\Ϙ d o (qD6 pk nk P A n.length r)/\Kp [] w d/\d.heap.size=g.heap.size:=
   ⟨_,rfl,μ q 0 _,(qB2 oM _ _).trans U,(qB2 oM _ _).trans R,(qB2 oM _ _).trans K,H.setCell (Or.inr sM) _,by simp[World.setCell]⟩
  have ab:=hid (I.fresh base (T+2) d (w.heap.size+1) (w.heap.size+3) (w.heap.size+2) m _ l (by have:=f.out.hbs;omega) (by have:=f.out.hbs;omega) (by have:=f.out.hbs;omega) (by have:=f.out.t0;omega) z HL.1 (λ_=>HL.2 (by trivial)) F D E)
 rotate_left
 focus
  obtain⟨d,M,F,E,D,v,J,aa⟩:∃ d,d=(g.setCell ⟨w.heap.size+1,0,none⟩ (ϖ (w.heap.size+3))).setCell ⟨w.heap.size+1,5,none⟩ (.bool true)/\d.heap[w.heap.size+1]?=some (kob ⟨w.heap.size+3,m,.slice none 0 0,false,.slice none 0 0,true,false,none,.slice none 0 0,0,false,.slice none 0 0,.slice none 0 0,.slice none 0 0⟩)/\d.heap[w.heap.size+2]?=some (.cells (enc l) 115)/\d.heap[w.heap.size+3]?=some (qM9 m (w.heap.size+2) (.slice none 0 0) 0 0)/\Ϙ d o (qD6 pk nk P A n.length r)/\Kp [] w d/\d.heap.size=g.heap.size:=
   ⟨_,rfl,μ (μ q 0 _) 5 _,(qB2 oM _ _).trans ((qB2 oM _ _).trans U),(qB2 oM _ _).trans ((qB2 oM _ _).trans R),(qB2 oM _ _).trans ((qB2 oM _ _).trans K),(H.setCell (Or.inr sM) _).setCell (Or.inr sM) _,by simp[World.setCell]⟩
  have ab:=hid (I.fresh base (T+2) d (w.heap.size+1) (w.heap.size+3) (w.heap.size+2) m _ l (by have:=f.out.hbs;omega) (by have:=f.out.hbs;omega) (by have:=f.out.hbs;omega) (by have:=f.out.t0;omega) z HL.1 (λe=>by cases e) F D E)
 all_goals
  have Q:=qQ1 u J (Apart.nil _ _);have Y:=f.out.len;have ax:=f.out.hbs;obtain⟨v5,w5,ag,Z,X⟩:=zT0 (d.alloc (.cells #[ϖ (w.heap.size+1)] 119)) base d.heap.size (.slice A n.length r) n.length (qJ7 I n) (ϖ (w.heap.size+1)) 68 119 68 (.pointer none) underlying68 qV7 rfl (Q.alloc _) oM (υ _ _) rfl sO;obtain⟨g5,c5,rfl⟩:=qL7 Z;have ao:=hid X;have ap:=hid Z;have W:Ϙ w5 o (qD6 pk nk P A n.length r):=by
   have an:=qJ1 Q;refine Kp.heap (S:=(Value.slice A n.length r).ownBlock.toList) (((Kp.refl _ d).alloc _).grown X (λk L=>Or.inl (by simp[L]))) v (λz=>?_);obtain⟨_,c,hc⟩:=an _ z;rw[v] at hc;cases hc
  have ak:=zh J;have d0:=ξ q;have aq:=ψ q;have u1:=ξ v 1;simp only[qD6,zG,zH,zI] at u1;have v1:=ξ W 1;simp only[qD6,zG,zH,zI] at v1;have ar:=ψ W 1;rw[aa,M] at ag;rw[M] at u1;have H1:=zh (n4 p B C u);have aw:=ζ K;have au:=ζ q;clear Z X M H J q U R K F E D v Q p B C u W aa
  go_wp2_with (at_builtin;((with_reducible refine qS9 ?_ ?_ ag ?_);rfl;rfl))
  go_ret;obtain⟨p,B,C,u⟩:=H1.out;obtain⟨gn,g1,g2,g3⟩:=ab.out;have ah:=ap.out;rw[<-g2] at ah;obtain⟨q1,q2⟩:=f.out.more p B C u ak gn g1 (λi hi=>by rcases g3 i hi with h|h|h<;>omega) _ ah ao.out (iR _);exact⟨rfl,⟨_,q1⟩,q2⟩
end Go.Proofs.YtdohpenfkdckiaaGreatDoor.Gw
namespace Go.Proofs.YtdohpenfkdckiaaGreatDoor
open Go.Proofs.Tryz
open Go.RowKit
variable {κ:Nat}
theorem jL0(D A n C:Nat)(g f:Int)(l)(P Q:Option (Int × Int × Int))(N M rs:Int)(w)(hD:w.heap[D]?=some (.cells #[.iface 27 (.pointer (some ⟨A,0,none⟩))] 206))(h:w.heap[A]?=some (qA6 κ n C (.slice none 0 0) g f))
  (h8:8<=n) (bi:n<=400) (hC:w.heap[C]?=some (.cells (enc l) 115)) (X:n*128<=l.length) (F:C≠A) (be:IsHd l 0 P) (bf:IsHd l 1 Q) (hz:qN1 (qI3 P Q)=qI6 N M rs) (i j:Nat) (hi:upN N % 2=(i:Int)) (hj:upN (upN N) % 2=(j:Int)):
  Calls prog 138 #[.pointer (some ⟨D,0,none⟩)] w λe Y=>e=.returned (.tuple #[])/\
   (∃ c,Y.heap[A]?=some (qA6 κ n C (.slice none 0 0) c (nx (nx f))))/\Y.heap[C]?=some (.cells (enc (qC7 (qC7 l i (qB6 (upN N) 0 0)) j (qB6 (upN (upN N)) 0 0))) 115)/\Kp [A,C] w Y:=by
 have bs:=ζ hD;have hA:=ζ h;have br:=ζ hC;have c0:=ξ hD 0;simp at c0;have aa:=hid (show upN N % 2=(i:Int)/\upN (upN N) % 2=(j:Int) from⟨hi,hj⟩);have bx:i<2:=oM
 have bz:j<2:=oM
 clear hi hj;go_enter func138,ntmps138;go_wp2_with fail;refine (zR7 A n C (.slice none 0 0) g f _ h h8 bi).mono ?_;rintro e w1 ⟨V,rfl,bw,K,G⟩;have ab:=G.hp h;have R:=G.hp hC;have T:Kp [A,C] w w1:=G.mono sM;have y:V≠A:=oM
 have L:V≠C:=oM
 clear G;go_wp2_with fail;have O:=hid (zQ8 V A n C g f l P Q w1 K ab h8 oM R X F y be bf);rw[hz,qI6] at O;clear be bf hz;refine (show Calls _ _ _ _ _ from O).mono ?_;rintro e w2 ⟨rfl,ac,E⟩;clear O;have a6:=E.heap K (by simp[y]);have al:=E.heap R (by simp[F]);have az:=T.tr E;have bv:=ζ K;have bn:=E.size;have bm:=T.size;clear E T ab R K c0;go_wp2;obtain⟨H,S⟩:=eX w2.heap.size;rw[<-S];have x:w.heap.size<=H:=oM
 have aw:A≠H:=oM
 have ax:C≠H:=oM
 have ay:V≠H:=oM
 obtain⟨k,bb,a0,ad,am,a7,z⟩:∃ k,k=w2.alloc (.cells #[.int .u64 N,ϊ M,.int .u64 rs] 166)/\Kp [A,C] w k/\Ϙ k A (qA6 κ n C (.slice none 0 0) (nx (nx g)) f)/\Ϙ k C (.cells (enc l) 115)/\Ϙ k V (qE4 A n)/\Ϙ k H (.cells #[.int .u64 N,ϊ M,.int .u64 rs] 166):=
  ⟨_,rfl,az.alloc _,ρ _ ac,ρ _ al,ρ _ a6,by rw[S];exact υ _ _⟩
 rw[<-bb];clear bb az ac al a6 S bn bm;have p:=zh aw;have q:=zh ax;have r:=zh ay;clear aw ax ay;have a:=ξ z 0;have b:=ξ z 1;have d:=ξ z 2;simp at a b d;refine wp_loop_rounds 3 ?_;rw[rounds_succ];go_wp2_with fail;refine (zH8 N M rs 0 0 _).mono ?_;rintro e bg ⟨rfl,aj⟩;have s:=Kp.of_below aj lR;have ae:=s.hp ad;have an:=s.hp am;have a8:=s.hp a7;have u:=s.hp z;have a1:=a0.tr s;clear aj s ad am a7 z a0 a b d;have a:=ξ u 0;have b:=ξ u 1;have d:=ξ u 2;simp at a b d;have Z:=ψ u;go_wp2_with fail;obtain⟨m,bc,a2,af,ao,U,au⟩:∃ m,m=((bg.setCell ⟨H,0,none⟩ (.int .u64 (upN N))).setCell ⟨H,1,none⟩ (ϊ 0)).setCell ⟨H,2,none⟩ (.int .u64 0)/\Kp [A,C] w m/\Ϙ m A (qA6 κ n C (.slice none 0 0) (nx (nx g)) f)/\Ϙ m C (.cells (enc l) 115)/\Ϙ m V (qE4 A n)/\Ϙ m H (.cells #[.int .u64 (upN N),ϊ 0,.int .u64 0] 166):=
  ⟨_,rfl,((a1.setCell (Or.inr x) _).setCell (Or.inr x) _).setCell (Or.inr x) _,(qB2 p _ _).trans ((qB2 p _ _).trans ((qB2 p _ _).trans ae)),(qB2 q _ _).trans ((qB2 q _ _).trans ((qB2 q _ _).trans an)),(qB2 r _ _).trans ((qB2 r _ _).trans ((qB2 r _ _).trans a8)),μ (μ (μ u 0 _) 1 _) 2 _⟩
 rw[<-bc];clear bc a1 ae an a8 u a b d Z;refine (zO0 V A n C (nx (nx g)) f i (upN N) 0 0 l _ U af oM oM ao X F y L aa.1 (qP4 _).1 oM oM oM).mono ?_;rintro e bp ⟨rfl,ag,ap,I⟩;have a9:=I.heap U (by simp[y,L]);have B:=I.ho au;have a3:=a2.tr I;clear I a2 af ao U au;have a:=ξ B 0;have b:=ξ B 1;have d:=ξ B 2;simp at a b d;have bo:n*128<=(qC7 l i (qB6 (upN N) 0 0)).length:=qU9 l _ i n (qI7 _ _ _) X oM;go_wp2_with fail;rw[rounds_succ];go_wp2_with fail;refine (zH8 (upN N) 0 0 0 0 _).mono ?_;rintro e bh ⟨rfl,ak⟩;have t:=Kp.of_below ak lR;have ah:=t.hp ag;have aq:=t.hp ap;have ba:=t.hp a9;have v:=t.hp B;have a4:=a3.tr t;clear ak t ag ap a9 B a3 a b d;have a:=ξ v 0;have b:=ξ v 1;have d:=ξ v 2;simp at a b d;have Z:=ψ v;go_wp2_with fail;obtain⟨o,bd,a5,ai,ar,W,av⟩:∃ o,o=((bh.setCell ⟨H,0,none⟩ (.int .u64 (upN (upN N)))).setCell ⟨H,1,none⟩ (ϊ 0)).setCell ⟨H,2,none⟩ (.int .u64 0)/\Kp [A,C] w o/\Ϙ o A (qA6 κ n C (.slice none 0 0) (nx (nx (nx (nx g)))) (nx f))/\Ϙ o C (.cells (enc (qC7 l i (qB6 (upN N) 0 0))) 115)/\Ϙ o V (qE4 A n)/\Ϙ o H (.cells #[.int .u64 (upN (upN N)),ϊ 0,.int .u64 0] 166):=
  ⟨_,rfl,((a4.setCell (Or.inr x) _).setCell (Or.inr x) _).setCell (Or.inr x) _,(qB2 p _ _).trans ((qB2 p _ _).trans ((qB2 p _ _).trans ah)),(qB2 q _ _).trans ((qB2 q _ _).trans ((qB2 q _ _).trans aq)),(qB2 r _ _).trans ((qB2 r _ _).trans ((qB2 r _ _).trans ba)),μ (μ (μ v 0 _) 1 _) 2 _⟩
 rw[<-bd];clear bd a4 ah aq ba v a b d Z;refine (zO0 V A n C (nx (nx (nx (nx g)))) (nx f) j (upN (upN N)) 0 0 _ _ W ai oM oM ar bo F y L aa.2 (qP4 _).1 oM oM oM).mono ?_;rintro e bq ⟨rfl,bj,bk,J⟩;have bu:=J.heap W (by simp[y,L]);have bt:=J.ho av;have bl:=a5.tr J;clear J a5 ai ar W av;go_wp2_with fail;rw[rounds_succ];go_wp2
 go_end0
 exact⟨rfl,⟨_,bj⟩,bk,bl⟩
end Go.Proofs.YtdohpenfkdckiaaGreatDoor
