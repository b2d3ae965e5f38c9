import Derived.Test.YtdohpenfkdckiaaGreatDoorJ14
import Derived.Test.YtdohpenfkdckiaaGreatDoorJ16
import Derived.ChangeKeysEq
set_option linter.all false
set_option maxRecDepth 100000
set_option maxHeartbeats 20000000
namespace Go.Proofs.YtdohpenfkdckiaaGreatDoor
open Go.Proofs.Tryz
open Go.RowKit
structure SOp where
 k:Int
 x:Int
 y:Int
 a:Int
 b:Int
 s:ByteArray
 t:ByteArray
def SOp.cells(o:SOp):List Value:=[.int .i64 o.k,.int .i64 o.x,.int .i64 o.y,.int .i64 o.a,.int .i64 o.b,.string o.s,.string o.t]
def Script(w:World)(p:Option Addr)(n:Nat)(f:Nat→SOp):Prop:=
 0<n→∃ blk off,p=some ⟨blk,off,none⟩∧blk<w.heap.size∧∀ i,i<n→∀ c,c<7→w.cell? ⟨blk,off+i*7+c,none⟩=(f i).cells[c]?
theorem Script.keep{w w'}{p}{n:Nat}{f:Nat->SOp}(h:Script w p n f)(hK:Kp [] w w'):Script w' p n f:=λm=>by
 obtain⟨b,e,g,d,j⟩:=h m;exact⟨b,e,g,Nat.lt_of_lt_of_le d hK.size,λi l c k=>(hK.cell (a:=⟨b,e+i*7+c,none⟩) d sM).trans (j i l c k)⟩
def xS5(n:Nat)(w:World)(e:Ending)(w':World):Prop:=∃ r:Bool,e=.returned (.bool r)∧(r=true→n≤16384)∧∃ m,w'=w.drewN m
theorem kM9(p)(n cap:Nat)(f:Nat->SOp)(w)(b:Script w p n f):
  Calls prog 16 #[.slice p n cap] w λe o=>xS5 n w e o:=by
 by_cases r:16384<n
 .have k:(16384:Int)<(n:Int):=oM
  go_enter func16,ntmps16;go_wp2;go_ret;exact⟨false,rfl,sM,0,rfl⟩
 .have k:¬(16384:Int)<(n:Int):=oM
  have d:=zh b;clear b;go_enter func16,ntmps16;go_wp2
  go_loopw [3,4] (λs i wr=>∃ (j:Nat) (t:Int),j<=n/\i=.int .i64 j/\s=.int .i64 t/\∃ m,wr=w.drewN m) (λ_ i _=>n-(intOf i).toNat)
  case atStart=>exact⟨0,n,zL _,rfl,rfl,0,rfl⟩
  case round=>
   obtain⟨j,t,v,rfl,rfl,m,rfl⟩:=hrel;by_cases c:j<n
   .obtain⟨q,x,rfl,u,a⟩:=d.out oM;have g:=a j c 5 dC;have h:=a j c 6 dC;simp only[SOp.cells,zH,zI] at g h;have l:(j:Int)<(n:Int):=oM
    clear a;go_wp2_with fail
    go_quiet (fail)
    go_wp2
    case roundEnd=>exact⟨⟨j+1,_,oM,by go_num,rfl,_,rfl⟩,by simp[intOf];omega⟩
    go_ret;exact⟨false,rfl,sM,_,rfl⟩
   .have l:¬(j:Int)<(n:Int):=oM
    go_wp2;go_ret;exact⟨true,rfl,oM,m,rfl⟩
end Go.Proofs.YtdohpenfkdckiaaGreatDoor
namespace Go.Proofs.YtdohpenfkdckiaaGreatDoor.Gw
open Go.Proofs.Tryz
open Go.RowKit
open Go.ChangeMaps
structure TK where
 over:Bool
 wrt:Bool
 nr:Int
def cnt(wr:Bool)(ks:List TK):Nat:=ks.countP fun k=>!k.over && (k.wrt == wr)
structure Books(s:Sto)(D:DataW Unit)(ks:List TK):Prop where
 size:Maps.size D=cnt false ks
 keys:∀ m,Maps.has D (χ m)=true↔∃ (j:Nat) (k:TK),ks[j]?=some k∧k.over=false∧k.wrt=false∧k.nr=m
 wrs:∀ (j:Nat) (k:TK),ks[j]?=some k→k.over=false→k.wrt=true→k.nr=s.wr
 wr1:s.wr≠0→∃ (j:Nat) (k:TK),ks[j]?=some k∧k.over=false∧k.wrt=true∧k.nr=s.wr
 nrs:∀ (j:Nat) (k:TK),ks[j]?=some k→1≤k.nr∧k.nr≤s.bg
 four:Maps.size D≤4
 dist:∀ (a b:Nat) (ka kb:TK),ks[a]?=some ka→ks[b]?=some kb→ka.nr=kb.nr→a=b
theorem zF2{a b:Int}(h:χ a=χ b):a=b:=by
 simp only[χ] at h;cases h;rfl
theorem xE1(a:Int):WideAt.IsKeyLit (χ a):=by
 simp[χ,WideAt.IsKeyLit]
theorem Books.none{s}{D}(c:Maps.size D=0)(d:∀ m,Maps.has D (χ m)=false)(e:s.wr=0):Books s D []:=
 ⟨by rw[c];rfl,λm=>by simp[d m],λj k h=>by simp at h,λh=>absurd e h,λj k h=>by simp at h,oM,λa b ka kb h=>by simp at h⟩
theorem qQ0{ks:List TK}{x k:TK}{j:Nat}(h:(ks++[x])[j]?=some k):ks[j]?=some k\/(j=ks.length/\k=x):=by
 rcases Nat.lt_or_ge j ks.length with a|a
 .rw[List.getElem?_append_left a] at h;exact .inl h
 .rw[List.getElem?_append_right a] at h;have:j-ks.length=0:=by
   rcases Nat.eq_zero_or_pos (j-ks.length) with b|b
   .exact b
   .rw[gN sO] at h;cases h
  rw[this] at h;simp at h;exact .inr ⟨oM,h.symm⟩
theorem zK1{ks:List TK}{x k:TK}{j:Nat}(h:ks[j]?=some k):(ks++[x])[j]?=some k:=by
 have:j<ks.length:=by
  rcases Nat.lt_or_ge j ks.length with a|a
  .exact a
  .rw[gN a] at h;cases h
 rw[List.getElem?_append_left this];exact h
theorem zW1{ks:List TK}{k:TK}{j:Nat}(h:ks[j]?=some k):j<ks.length:=by
 rcases Nat.lt_or_ge j ks.length with a|a
 .exact a
 .rw[gN a] at h;cases h
theorem Books.nw{s}{D}{ks:List TK}(h:Books s D ks)(c:s.wr=0){j:Nat}{k:TK}(a:ks[j]?=some k)(b:k.over=false):k.wrt=false:=by
 cases hw:k.wrt with
 | false=>rfl
 | true=>
  have:=h.wrs j k a b hw;have:=(h.nrs j k a).1;omega
theorem Books.born_write{s}{D}{ks:List TK}(h:Books s D ks)(n:s.wr=0)(r:0<=s.bg):Books s.wrote D (ks++[⟨false,true,s.bg+1⟩]):=by
 refine⟨?_,λm=>?_,λj k c ho hw=>?_,λ_=>?_,λj k c=>?_,h.four,λa b ka kb f hb' e=>?_⟩
 .rw[h.size,cnt,cnt,List.countP_append];simp[List.countP_cons]
 .rw[h.keys m];constructor
  .rintro⟨j,k,d,g⟩;exact⟨j,k,zK1 d,g⟩
  .rintro⟨j,k,d,g,i,o⟩;rcases qQ0 d with d|⟨_,rfl⟩
   .exact⟨j,k,d,g,i,o⟩
   .cases i
 .rcases qQ0 c with c|⟨_,rfl⟩
  .have:=h.nw n c ho;rw[hw] at this;cases this
  .rfl
 .exact⟨ks.length,⟨false,true,s.bg+1⟩,sM,rfl,rfl,rfl⟩
 .rcases qQ0 c with c|⟨_,rfl⟩
  .have:=h.nrs j k c;exact⟨this.1,by show k.nr<=s.bg+1;omega⟩
  .exact⟨by show 1<=s.bg+1;omega,iR _⟩
 .rcases qQ0 f with f|⟨p,rfl⟩<;>rcases qQ0 hb' with l|⟨q,rfl⟩
  .exact h.dist a b ka kb f l e
  .have:=(h.nrs a ka f).2;simp only at e;omega
  .have:=(h.nrs b kb l).2;simp only at e;omega
  .omega
theorem Books.born_read{s}{D d}{ks:List TK}(h:Books s D ks)(n:Maps.Tidy D)(x:0<=s.bg)(i:Maps.size D<4):Books s.read (D.put (χ (s.bg+1)) d) (ks++[⟨false,false,s.bg+1⟩]):=by
 have p:Maps.has D (χ (s.bg+1))=false:=by
  cases hh:Maps.has D (χ (s.bg+1)) with
  | false=>rfl
  | true=>
   obtain⟨j,k,c,_,_,i⟩:=(h.keys _).1 hh;have:=(h.nrs j k c).2;omega
 refine⟨?_,λm=>?_,λj k f ho hw=>?_,λhw=>?_,λj k f=>?_,by rw[Maps.size_put n,p,if_neg sM];omega,λa b q r l u e=>?_⟩
 .rw[Maps.size_put n,p,if_neg sM,h.size,cnt,cnt,List.countP_append];simp[List.countP_cons]
 .by_cases e:m=s.bg+1
  .subst e;rw[Maps.has_put_same n.isMap (xE1 _)];simp only[true_iff];exact⟨ks.length,⟨false,false,s.bg+1⟩,sM,rfl,rfl,rfl⟩
  .rw[Maps.has_put_other (λh=>e (zF2 h)),h.keys m];constructor
   .rintro⟨j,k,c,g⟩;exact⟨j,k,zK1 c,g⟩
   .rintro⟨j,k,c,g,t,i⟩;rcases qQ0 c with c|⟨_,rfl⟩
    .exact⟨j,k,c,g,t,i⟩
    .exact absurd i.symm e
 .rcases qQ0 f with f|⟨_,rfl⟩
  .exact h.wrs j k f ho hw
  .cases hw
 .obtain⟨j,k,c,g⟩:=h.wr1 hw;exact⟨j,k,zK1 c,g⟩
 .rcases qQ0 f with f|⟨_,rfl⟩
  .have:=h.nrs j k f;exact⟨this.1,by show k.nr<=s.bg+1;omega⟩
  .exact⟨by show 1<=s.bg+1;omega,iR _⟩
 .rcases qQ0 l with l|⟨v,rfl⟩<;>rcases qQ0 u with o|⟨w,rfl⟩
  .exact h.dist a b q r l o e
  .have:=(h.nrs a q l).2;simp only at e;omega
  .have:=(h.nrs b r o).2;simp only at e;omega
  .omega
theorem Books.left{s}{D}{ks:List TK}(h:Books s D ks)(F:Maps.Tidy D){i:Nat}{k:TK}(f:ks[i]?=some k)(E:k.over=false):Books (s.left k.nr) (D.del (χ k.nr)) (ks.set i ⟨true,k.wrt,k.nr⟩):=by
 have u:=zW1 f;have J:ks[i]=k:=by rw[gQ u] at f;exact Option.some.inj f
 have p:∀ j x,(ks.set i ⟨true,k.wrt,k.nr⟩)[j]?=some x->(j≠i/\ks[j]?=some x)\/(j=i/\x=⟨true,k.wrt,k.nr⟩):=λj x d=>by
  rw[List.getElem?_set] at d;split at d
  .rename_i e;subst e;simp[u] at d;exact .inr ⟨rfl,d.symm⟩
  .rename_i e;exact .inl ⟨λh=>e h.symm,d⟩
 have C:∀ j x,j≠i->ks[j]?=some x->(ks.set i ⟨true,k.wrt,k.nr⟩)[j]?=some x:=λj x q d=>by
  rw[List.getElem?_set_ne (λe=>q e.symm)];exact d
 refine⟨?_,λm=>?_,λj x d ho' hw=>?_,λhw=>?_,λj x d=>?_,by have o:=Maps.size_del (k:=χ k.nr) F;have:=h.four;omega,λa b v w G H e=>?_⟩
 .have o:=Maps.size_del (k:=χ k.nr) F;rw[h.size] at o;have I:cnt false (ks.set i ⟨true,k.wrt,k.nr⟩)=cnt false ks-(if k.wrt=false then 1 else 0):=by
   rw[cnt,List.countP_set u,J,cnt];cases hw:k.wrt<;>simp[E,hw]
  rw[I]
  cases hw:k.wrt with
  | false=>
   have:Maps.has D (χ k.nr)=true:=(h.keys _).2 ⟨i,k,f,E,hw,rfl⟩;rw[this] at o;simp at o |-;omega
  | true=>
   have:Maps.has D (χ k.nr)=false:=by
    cases hh:Maps.has D (χ k.nr) with
    | false=>rfl
    | true=>
     obtain⟨j,x,c,_,n,g⟩:=(h.keys _).1 hh;have:=h.dist j i x k c f g;subst this;rw[f] at c;cases c;rw[hw] at n;cases n
   rw[this] at o;simp at o |-;omega
 .by_cases e:m=k.nr
  .subst e;rw[Maps.has_del_same];simp only[Bool.false_eq_true,false_iff];rintro⟨j,x,c,l,n,g⟩;rcases p j x c with⟨q,c⟩|⟨_,rfl⟩
   .exact q (h.dist j i x k c f g)
   .cases l
  .rw[Maps.has_del_other (λh=>e (zF2 h)),h.keys m];constructor
   .rintro⟨j,x,c,l,n,g⟩;refine⟨j,x,C j x (λt=>?_) c,l,n,g⟩;subst t;rw[f] at c;cases c;exact e g.symm
   .rintro⟨j,x,c,l,n,g⟩;rcases p j x c with⟨_,c⟩|⟨_,rfl⟩
    .exact⟨j,x,c,l,n,g⟩
    .cases l
 .rcases p j x d with⟨q,d⟩|⟨_,rfl⟩
  .have:=h.wrs j x d ho' hw;show x.nr=(s.left k.nr).wr;have r:k.nr≠s.wr:=λe=>q (h.dist j i x k d f (by rw[this,e]));rw[Sto.left];simp only[if_neg r];exact this
  .cases ho'
 .have r:k.nr≠s.wr:=λe=>by
   apply hw;simp[Sto.left,e]
  have K:s.wr≠0:=λe=>by
   apply hw;simp[Sto.left,r,e]
  obtain⟨j,x,c,l,n,g⟩:=h.wr1 K;refine⟨j,x,C j x (λt=>?_) c,l,n,?_⟩
  .subst t;rw[f] at c;cases c;exact r g
  .simp only[Sto.left,if_neg r];exact g
 .rcases p j x d with⟨_,d⟩|⟨_,rfl⟩
  .exact h.nrs j x d
  .exact h.nrs i k f
 .rcases p a v G with⟨c,A⟩|⟨y,rfl⟩<;>rcases p b w H with⟨l,B⟩|⟨z,rfl⟩
  .exact h.dist a b v w A B e
  .subst z;exact h.dist a b v k A f e
  .subst y;exact h.dist a b k w f B e
  .rw[y,z]
theorem Books.busyW{s}{D}{ks:List TK}(h:Books s D ks):s.wr=0↔cnt true ks=0:=by
 rw[cnt,List.countP_eq_zero];constructor
 .intro a k i;obtain⟨j,g,rfl⟩:=gO i;have:=λb=>h.nw a (gQ g) b;cases b:ks[j].over<;>simp[b] at this |-;simp[this]
 .intro f;rcases Decidable.em (s.wr=0) with a|a
  .exact a
  .obtain⟨j,k,c,d,e,l⟩:=h.wr1 a;have:=f k (mO c);simp[d,e] at this
end Go.Proofs.YtdohpenfkdckiaaGreatDoor.Gw
namespace Go.Proofs.YtdohpenfkdckiaaGreatDoor
open Go.Proofs.Tryz
open Go.RowKit
theorem xK8{l n:Nat}{P:Program}{k:Array Oper}{Q:Exit->Act->World->Prop}(q:∀ (i:Nat) (o:Oper),k[i]?=some o->∀ c,o.op≠.defer c)(p:¬LetsOut Q):∀ (is) (a:Act) (w),wpOps P k Q is a w->wpOpsIn (Fence.wide.inRound l) n P k Q is a w
 | [],a,w,h=>h
 | i::rest,a,w,h=>by
  have b:=λa w=>xK8 (l:=l) (n:=n) (P:=P) q p rest a w;unfold wpOps at h;unfold wpOpsIn
  cases ho:k[i]? with
  | none=>
   simp only[ho] at h |-;exact b a w h
  | some o=>
   simp only[ho] at h |-;split
   .rename_i m;rw[if_pos m] at h;have h:=h.resolve_right (λh=>p h.2);refine⟨λ_ _=>trivial,?_⟩;rw[Fence.inRound_round,Oper.semAt_eq _ _ _ (q i o ho)];unfold Oper.wp at h;generalize (execOp a.eval o).run P w=r at h
    cases r with
    | ok nx w'=>
     cases nx with
     | value v=>exact b _ _ h
     | skip=>exact b _ _ h
     | defer d=>exact b _ _ h
     | enter f args=>
      refine⟨λg=>(by cases g),CallsIn.inRound l (callsIn_wide.2 (Calls.mono h ?_))⟩;intro e s j
      cases e with
      | returned v=>exact b _ _ j
      | panicked c=>exact j
      | outgrown=>exact j
     | row row args=>
      refine⟨λg=>(by cases g),λc cs _=>?_⟩;obtain⟨v,s,j,t⟩:=h c cs;exact⟨v,s,b _ _ j,stepsIn_wide.2 t⟩
     | _=>exact h.elim
    | halt g w'=>
     cases g with
     | panic v=>exact h
     | _=>exact h.elim
   .rename_i m;rw[if_neg m] at h;exact⟨λ_ _=>trivial,b _ _ h⟩
def zQ1(o:Oper):Bool:=match o.op with
 | .defer _=>false
 | _=>true
theorem kD2{a:Array Oper}(h:a.all zQ1=true):∀ (i:Nat) (o:Oper),a[i]?=some o->∀ c,o.op≠.defer c:=λi o ho c e=>by
 have b:=Array.mem_of_getElem? ho;have:=Array.all_eq_true_iff_forall_mem.1 h o b;simp[zQ1,e] at this
theorem kS9{l n:Nat}{P:Program}{b:Array Oper}{Q:Exit->Act->World->Prop}{S:World->Prop}{id:Nat}{a:Act}{w}(f:P.follows .mixedOrders=true)(e:b.all zQ1=true)(c:¬LetsOut Q)(d:S w.drew)
  (h:S w.drew->wpAnyH P .any b Q S b.size (Array.replicate b.size false) a w.drew):(Code.region id b true).wpIn (Fence.wide.inRound l) n P Q a w:=
 wpIn_region_draw λt=>by
  simp only[Region.schedule,f,Bool.true_or,if_true];exact xK8 (kD2 e) c _ _ _ (wpAny_sound b.size t _ a _ (wpAny_of_held _ _ _ _ (h d)))
section
attribute [local go_sem] Oper.semAt_some
theorem xW5(l m Sx gb off k cp:Nat)(cur:Array Value)(fr:Nat × Nat)(hs:List HL)(J:Nat->World->Prop)(Jx:World->Prop)(w:World)(hk:k<=10000)(hkc:k<=cp)(hkh:k<=hs.length)
  (hcur:∀ i (h:i<hs.length),cur[off+i*4]?=some (.string hs[i].key)/\cur[off+i*4+1]?=some (.int .i64 hs[i].b)/\cur[off+i*4+2]?=some (.int .u64 hs[i].s)/\cur[off+i*4+3]?=some (.pointer hs[i].ptr))
  (hbox:∀ i W,J i W->W.heap[Sx]?=some (.cells #[.slice (some ⟨gb,off,none⟩) k cp] 156)/\W.heap[gb]?=some (.cells cur 87 fr))
  (hY:∀ i (hi:i<k) W,J (i+1) W->YieldAt Fence.wide (m-1) prog l #[.int .i64 i,.agg #[.string hs[i].key,.int .i64 hs[i].b,.int .u64 hs[i].s,.pointer hs[i].ptr]] W λe W'=>(e=.returned (.bool true)/\J i W')\/(e=.returned (.bool false)/\Jx W'))
  (h0:J k w):
  CallsIn Fence.wide m prog 220 #[.func (.yield l) #[] #[],.pointer (some ⟨Sx,0,none⟩)] w λe w'=>(∃ v,e=.returned v)/\(J 0 w'\/Jx w'):=by
 have HJ0:=zh h0;have HBX:=zh hbox;have HY:=zh hY;have HCUR:=zh hcur;have hS0:=(hbox k w h0).1;have hSs:=ζ hS0;have s0:=ϻ hS0 0;have hwr:wrap64 ((k:Int)-1)=(k:Int)-1:=by simp only[wrap64];omega
 clear hbox hY hcur h0 hS0;refine callsIn_of_wp func220 rfl trivial ?_ rfl;simp only[ntmps220,List.size_toArray,lC,List.length_nil,Nat.reduceAdd,Nat.reduceSub,Array.replicate_succ,Array.replicate_zero,List.push_toArray,aT,nA,cA]
 gi_wp2_with fail
 gi_loopg [3] k (λgk v wr=>gk<=k/\v=.int .i64 ((gk:Int)-1)/\Hid (J gk wr))
 case atStart=>exact⟨lR,by simp[hwr],HJ0⟩
 case round=>
  obtain⟨hgk,rfl,hJ⟩:=hrel;obtain⟨hS1,hG1⟩:=HBX.out _ _ hJ.out;have hS1s:=ζ hS1;have hG1s:=ζ hG1;have s0:=ϻ hS1 0;by_cases h0:gk=0
  .subst h0;have hc:¬(0:Int)<=((0:Nat):Int)-1:=oM
   clear hS1 hG1;rw[show ((0:Nat):Int)-1=-1 by rfl] at hc |-
   gi_wp2
   refine bodyPost_end (results_none results220 _ _ _) rfl ?_;exact⟨⟨_,rfl⟩,.inl hJ.out⟩
  .obtain⟨i,rfl⟩:∃ i,gk=i+1:=⟨gk-1,oM⟩;have hi:i<k:=oM
   have e1:((i+1:Nat):Int)-1=(i:Int):=oM
   rw[e1];have hc:(0:Int)<=(i:Int):=oM
   have hib:(i:Int)<(k:Int):=oM
   obtain⟨c0,c1,c2,c3⟩:=HCUR.out i oM;have a0:=ξ hG1 (off+i*4);rw[c0] at a0;have a1:=ξ hG1 (off+i*4+1);rw[c1] at a1;have a2:=ξ hG1 (off+i*4+2);rw[c2] at a2;have a3:=ξ hG1 (off+i*4+3);rw[c3] at a3;obtain⟨fn,tmps,assign,body,hy,hR⟩:=HY.out i hi wr hJ.out;have hwi:wrap64 ((i:Int)-1)=(i:Int)-1:=by simp only[wrap64];omega
   clear c0 c1 c2 c3 hG1 hS1 hJ e1 h0
   gi_wp2
   refine⟨λh=>(by cases h),hR.mono ?_⟩;clear hR hy;rintro e w5 (⟨rfl,hJ5⟩|⟨rfl,hJx⟩)
   .have HJ5:=zh hJ5;clear hJ5 a0 a1 a2 a3
    gi_wp2
    gi_roundg i
    .exact⟨oM,by go_num,HJ5⟩
    .omega
   .have HX:=zh hJx;clear hJx a0 a1 a2 a3
    gi_wp2
    refine bodyPost_ret (results_none results220 _ _ _) rfl ?_;exact⟨⟨_,rfl⟩,.inr HX⟩
end
section
attribute [local go_sem] Oper.semAt_some
theorem jB0(args)(W):Sem.run prog (callFunc 220 args) W=.ok (.enter 220 args) W:=by
 simp[go_sem,func220]
def zA0(x:HL):Value:=.agg #[.string x.key,.int .i64 x.b,.int .u64 x.s,.pointer x.ptr]
def qW0(x:HL):Obj:=.cells #[.string x.key,.int .i64 x.b,.int .u64 x.s,.pointer x.ptr] 87
def zU4(N:Nat)(W W3:World):Prop:=W3.heap[N+1]?=W.heap[N+1]?∧W3.heap[N]?=W.heap[N]?
theorem kS6{nn:Nat}{g:Operand}{ps:Array Tmp}{assign body:Code}{Q:Exit→Act→World→Prop}{a:Act}{w:World}(Sx gb off k cp:Nat)(cur:Array Value)(fr:Nat × Nat)(hs:List HL)(h1:1≤nn)(hk:k≤10000)(hkc:k≤cp)(hkh:k≤hs.length)
  (hg:a.eval g=.func (.func 220) #[] #[.pointer (some ⟨Sx,0,none⟩)]) (hps:ps.size=2)
  (hcur:∀ i (h:i<hs.length),cur[off+i*4]?=some (.string hs[i].key)∧cur[off+i*4+1]?=some (.int .i64 hs[i].b)∧cur[off+i*4+2]?=some (.int .u64 hs[i].s)∧cur[off+i*4+3]?=some (.pointer hs[i].ptr))
  (J:Nat→World→Prop) (Jx:World→Prop)
  (hJK:∀ i W W',J i W→Kp [w.heap.size+1] W W'→(∃ rec,W.heap[w.heap.size+1]?=some (.loop rec))→J i W') (hJxK:∀ W W',Jx W→Kp [w.heap.size+1] W W'→(∃ rec,W.heap[w.heap.size+1]?=some (.loop rec))→Jx W')
  (hbox:∀ i W,J i W→W.heap[Sx]?=some (.cells #[.slice (some ⟨gb,off,none⟩) k cp] 156)∧W.heap[gb]?=some (.cells cur 87 fr))
  (hJ0:∀ W,Kp [] w W→J k W)
  (a₁:Nat→HL→Nat→Act)
  (hassign:∀ (l i:Nat) (hi:i<k) (W:World) (K:Act→World→Prop),(∀ W2,W2.heap[W.heap.size]?=some (qW0 hs[i])→Kp [] W W2→K (a₁ i hs[i] W.heap.size) W2)→
   assign.wpIn (Fence.wide.inRound l) (nn-1-1) prog (Exit.then K (fun _ _ _=>False)) { tmps:=(ps.zip #[.int .i64 i,zA0 hs[i]]).foldl (fun t (p,v)=>t.setIfInBounds p v) a.tmps,defers:=[] } W)
  (hbody:∀ (l i:Nat) (hi:i<k) (W:World) (X:Nat),J (i+1) W→W.heap[X]?=some (qW0 hs[i])→w.heap.size+1<X→(∃ rec,W.heap[w.heap.size+1]?=some (.loop rec))→W.heap[w.heap.size]?=some (.deferred (some []))→
   body.wpIn (Fence.wide.inRound l) (nn-1-1) prog (fun e _ W3=>match e with
    | .normal=>J i W3∧zU4 w.heap.size W W3
    | .ret=>Jx W3∧zU4 w.heap.size W W3
    | _=>False) (a₁ i hs[i] X) W)
  (hdone:∀ (W:World),J 0 W→W.heap[w.heap.size]?=some (.deferred (some []))→Q .normal { a with defers:={ target:=.collected w.heap.size,args:=#[] }::a.defers } W)
  (hstop:∀ (W:World),Jx W→W.heap[w.heap.size]?=some (.deferred (some []))→Code.ret.wpIn Fence.wide nn prog Q { a with defers:={ target:=.collected w.heap.size,args:=#[] }::a.defers } W):
  (Code.rangeFunc g ps assign body).wpIn Fence.wide nn prog Q a w:=by
 refine wpIn_rangeFunc ?_;intro fn hfn;obtain⟨rec,hrec⟩:∃ rec:LoopState→Option Code→Loop,rec=fun st pe=>{ state:=st,pending:=pe,fn,tmps:=a.tmps,params:=ps,assign,body,defers:=w.heap.size }:=⟨_,rfl⟩;obtain⟨W1,hW1⟩:∃ W1,(w.alloc (.deferred (some []))).alloc (.loop (rec .ready none))=W1:=⟨_,rfl⟩;have hL1:W1.heap[w.heap.size+1]?=some (.loop (rec .ready none)):=by
  rw[←hW1];have:=World.alloc_heap_new (w.alloc (.deferred (some []))) (.loop (rec .ready none));rwa [World.size_alloc] at this
 have hD1:W1.heap[w.heap.size]?=some (.deferred (some [])):=by
  rw[←hW1];exact (Below.heap_alloc _ _ _ (by simp)).trans (World.alloc_heap_new w _)
 have hK1:Kp [] w W1:=by rw[←hW1];exact ((Kp.refl _ _).alloc _).alloc _
 refine⟨w.heap.size+1,[{ target:=.collected w.heap.size,args:=#[] }],W1,{ target:=.fn (.func 220) #[.pointer (some ⟨Sx,0,none⟩)],args:=#[.func (.yield (w.heap.size+1)) #[] #[]] },W1,220,
  #[.func (.yield (w.heap.size+1)) #[] #[],.pointer (some ⟨Sx,0,none⟩)],W1,?_,?_,?_,?_,fun h=>(by cases h),?_⟩
 ·rw[←hW1,hrec];exact run_enterLoop_outer _ _ _ _ _
 ·simp only[resolve,hg];simp[go_sem]
 ·intro f' hf';trivial
 ·simp[invoke,go_sem,jB0]
 ·refine (xW5 (w.heap.size+1) (nn-1) Sx gb off k cp cur fr hs (fun i W=>J i W∧W.heap[w.heap.size+1]?=some (.loop (rec .ready none))∧W.heap[w.heap.size]?=some (.deferred (some []))) (fun W=>Jx W∧W.heap[w.heap.size+1]?=some (.loop (rec .done (some .ret)))∧W.heap[w.heap.size]?=some (.deferred (some []))) W1 hk hkc hkh hcur (fun i W h=>hbox i W h.1) ?_ ⟨hJ0 W1 hK1,hL1,hD1⟩).mono ?_
  ·
   rintro i hi W ⟨hJ,hL,hD⟩;have hlt:w.heap.size+1<W.heap.size:=ζ hL;have hy:=run_yield (P:=prog) (args:=#[.int .i64 i,zA0 hs[i]]) hL (by rw[hrec];simp[hps]);rw[hrec] at hy;refine⟨fn,_,assign,body,hy,roundIn_of_wpIn hfn (hassign _ i hi W _ ?_)⟩;clear hy;intro W2 hX2 hK2;have hL2:=hK2.hp hL;have hD2:=hK2.hp hD;refine⟨_,run_beginRound hL2 (by rw[hrec]),?_⟩;obtain⟨W3,hW3,hL3,hK3⟩:∃ W3,W3=W2.putObj (w.heap.size+1) (.loop { rec .ready none with state:=.busy })∧W3.heap[w.heap.size+1]?=some (.loop { rec .ready none with state:=.busy })∧Kp [w.heap.size+1] W2 W3:=
    ⟨_,rfl,World.putObj_heap_same (ζ hL2),(Kp.refl _ _).putObj (by simp) _⟩
   rw[←hW3];clear hW3;have hJ3:J (i+1) W3:=hJK _ _ _ hJ (hK2.mono (by simp) |>.trans hK3 (fun _ h _=>h)) ⟨_,hL⟩;have hX3:=hK3.ho hX2;have hD3:=hK3.hp hD2;refine wpIn_mono (hbody _ i hi W3 W.heap.size hJ3 hX3 hlt ⟨_,hL3⟩ hD3) ?_;rintro e a3 W4 hp
   cases e with
   | normal=>
    obtain⟨hJ4,hb1,hb2⟩:=hp;rw[hL3] at hb1;rw[hD3] at hb2;have hr:=run_endRound (P:=prog) none hb1;rw[hrec] at hr;refine⟨_,_,hr,.inl ⟨rfl,?_⟩⟩;have hKf:Kp [w.heap.size+1] W4 (W4.putObj (w.heap.size+1) (.loop (rec .ready none))):=(Kp.refl _ _).putObj (by simp) _;have hfin:J i (W4.putObj (w.heap.size+1) (.loop (rec .ready none)))∧(W4.putObj (w.heap.size+1) (.loop (rec .ready none))).heap[w.heap.size+1]?=some (.loop (rec .ready none))∧(W4.putObj (w.heap.size+1) (.loop (rec .ready none))).heap[w.heap.size]?=some (.deferred (some [])):=
     ⟨hJK _ _ _ hJ4 hKf ⟨_,hb1⟩,World.putObj_heap_same (ζ hb1),hKf.hp hb2⟩
    rw[hrec] at hfin ⊢;exact hfin
   | ret=>
    obtain⟨hJ4,hb1,hb2⟩:=hp;rw[hL3] at hb1;rw[hD3] at hb2;have hr:=run_endRound (P:=prog) (some .ret) hb1;rw[hrec] at hr;refine⟨_,_,hr,.inr ⟨rfl,?_⟩⟩;have hKf:Kp [w.heap.size+1] W4 (W4.putObj (w.heap.size+1) (.loop (rec .done (some .ret)))):=(Kp.refl _ _).putObj (by simp) _;have hfin:Jx (W4.putObj (w.heap.size+1) (.loop (rec .done (some .ret))))∧(W4.putObj (w.heap.size+1) (.loop (rec .done (some .ret)))).heap[w.heap.size+1]?=some (.loop (rec .done (some .ret)))∧(W4.putObj (w.heap.size+1) (.loop (rec .done (some .ret)))).heap[w.heap.size]?=some (.deferred (some [])):=
     ⟨hJxK _ _ hJ4 hKf ⟨_,hb1⟩,World.putObj_heap_same (ζ hb1),hKf.hp hb2⟩
    rw[hrec] at hfin ⊢;exact hfin
   | exit i=>exact hp.elim
   | goto l=>exact hp.elim
   | panic ch=>exact hp.elim
   | outgrown=>exact hp.elim
  ·
   rintro e W2 ⟨⟨v,rfl⟩,⟨hJ2,hL2,hD2⟩|⟨hJ2,hL2,hD2⟩⟩
   ·have hr:=run_endLoop (P:=prog) hL2 (by rw[hrec];simp);rw[hrec] at hr;have hKf:Kp [w.heap.size+1] W2 (W2.putObj (w.heap.size+1) (.loop { rec .ready none with state:=.exhausted })):=(Kp.refl _ _).putObj (by simp) _;refine⟨none,_,hr,?_⟩;have:=hdone (W2.putObj (w.heap.size+1) (.loop { rec .ready none with state:=.exhausted })) (hJK _ _ _ hJ2 hKf ⟨_,hL2⟩) (hKf.hp hD2);rw[hrec] at this;exact this
   ·have hr:=run_endLoop (P:=prog) hL2 (by rw[hrec];simp);rw[hrec] at hr;have hKf:Kp [w.heap.size+1] W2 (W2.putObj (w.heap.size+1) (.loop { rec .done (some .ret) with state:=.exhausted })):=(Kp.refl _ _).putObj (by simp) _;refine⟨some .ret,_,hr,?_⟩;have:=hstop (W2.putObj (w.heap.size+1) (.loop { rec .done (some .ret) with state:=.exhausted })) (hJxK _ _ hJ2 hKf ⟨_,hL2⟩) (hKf.hp hD2);rw[hrec] at this;exact this
end
theorem xF5{f:ByteArray->Bool}{l}(h:∀ q∈l,f q.k=false):qF0 f l=none:=by
 rw[qF0,List.find?_eq_none];intro q a;simp[h q (by simpa using a)]
theorem xF6{f:ByteArray->Bool}{p}(h:f p.k=true):qF0 f [p]=some p:=by simp[qF0,h]
theorem xF7{f:ByteArray->Bool}(u:qR2 f){l}(B:Sorted l){i:Nat}(D:l.findIdx (λq=>!f q.k)-1=i)(z:i<l.length):qF0 f l=if f l[i].k then some l[i] else none:=by
 obtain⟨j,a⟩:∃ j,l.findIdx (λq=>!f q.k)=j:=⟨_,rfl⟩;have E:j<=l.length:=by rw[<-a];exact fL
 have c:∀ q∈l.drop j,f q.k=false:=by
  intro q A;obtain⟨b,t,rfl⟩:=gO A;rw[List.getElem_drop];have v:j+b<l.length:=by simp at t;omega
  have k:j<l.length:=oM
  have g:f l[j].k=false:=by
   have:=List.findIdx_getElem (p:=λq:KV=>!f q.k) (xs:=l) (w:=by rw[a];exact k);simp only[a] at this;simpa using this
  by_cases e:b=0
  .subst e;simpa using g
  .cases hf:f l[j+b].k with
   | false=>rfl
   | true=>
    have y:=pG B j (j+b) k v oM;rw[u _ _ y hf] at g;cases g
 by_cases r:j=0
 .have n:i=0:=oM
  subst n;have h:∀ q∈l,f q.k=false:=by rw[r] at c;simpa using c
  rw[xF5 h,if_neg (by rw[h _ (gM _)];simp)]
 .have o:i=j-1:=oM
  subst o;have d:f l[j-1].k=true:=by
   have:=List.not_of_lt_findIdx (p:=λq:KV=>!f q.k) (xs:=l) (i:=j-1) (by rw[a];omega);simpa using this
  rw[if_pos d];have m:l=l.take (j-1)++[l[j-1]]++l.drop j:=by
   have s:l.take (j-1)++[l[j-1]]=l.take j:=by
    rw[<-tA z]
    congr 1
    omega
   rw[s,tD]
  obtain⟨x,C⟩:=eY (l[j-1]);rw[C] at m d |-;have e:=congrArg (qF0 f) m;rw[qT6,qT6,xF5 c,xF6 d] at e;rw[e];rfl
theorem xB7{α:Type}(f:α->List Int)(g:α->Nat)(a:∀ x,(f x).length=g x)(l:List α)(j:Nat)(h:j<l.length):l.flatMap f=(l.take j).flatMap f++f l[j]++(l.drop (j+1)).flatMap f:=by
 conv=>lhs;rw[<-tD j l,fA,dG h,fC]
 rw[aA]
theorem zA2{α:Type}(g:α->Nat)(l:List α)(j:Nat)(h:j<l.length):meas g (l.take j)+g l[j]<=meas g l:=by
 have a:=qL6 g l j h;have b:=qO6 g l (j+1);omega
theorem kD4(ps)  (j:Nat) (h:j<ps.length):((toB (qA5 0 ps [])).drop (2+meas ρ (ps.take j))).take (ρ ps[j])=toB (qD9 ps[j]):=by
 have e:toB (qA5 0 ps [])=toB ([(0:Int),((ps.length:Nat):Int)]++(ps.take j).flatMap qD9)++toB (qD9 ps[j])++toB ((ps.drop (j+1)).flatMap qD9++List.replicate (128-(2+meas ρ ps)) 0):=by
  rw[<-qO9,<-qO9]
  congr 1
  simp only[qA5,qL7,List.flatMap_nil,aN,List.length_nil,Nat.add_zero,Nat.zero_add,qD6]
  conv=>lhs;rw[xB7 qD9 ρ (λp=>by first | exact qU4 p | exact qT7 p) ps j h]
  simp only[aA]
 have b:(toB ([(0:Int),((ps.length:Nat):Int)]++(ps.take j).flatMap qD9)).length=2+meas ρ (ps.take j):=by
  rw[qI3,lA,zE3 qD9 ρ (λp=>by first | exact qU4 p | exact qT7 p)];rfl
 have c:(toB (qD9 ps[j])).length=ρ ps[j]:=by
  rw[qI3]
  first | exact qU4 _ | exact qT7 _
 have a:=qX2 (toB (qA5 0 ps [])) 0 (toB (qA5 0 ps [])).length _ _ _ (by rw[dZ,List.take_length];exact e);rw[b,c,Nat.zero_add] at a;exact a
theorem kD3(ps)(a:Int)(f:0<a)(g:a<256)(j:Nat)(h:j<ps.length):((toB (qA5 a [] ps)).drop (2+meas qA0 (ps.take j))).take (qA0 ps[j])=toB (qE3 ps[j]):=by
 have e:toB (qA5 a [] ps)=toB ([(a:Int),((ps.length:Nat):Int)]++(ps.take j).flatMap qE3)++toB (qE3 ps[j])++toB ((ps.drop (j+1)).flatMap qE3++List.replicate (128-(2+meas qA0 ps)) 0):=by
  rw[<-qO9,<-qO9]
  congr 1
  simp only[qA5,qL7,List.flatMap_nil,aN,List.length_nil,Nat.add_zero,Nat.zero_add,qD6]
  conv=>lhs;rw[xB7 qE3 qA0 (λp=>by first | exact qU4 p | exact qT7 p) ps j h]
  simp only[aA]
 have c:(toB ([(a:Int),((ps.length:Nat):Int)]++(ps.take j).flatMap qE3)).length=2+meas qA0 (ps.take j):=by
  rw[qI3,lA,zE3 qE3 qA0 (λp=>by first | exact qU4 p | exact qT7 p)];rfl
 have d:(toB (qE3 ps[j])).length=qA0 ps[j]:=by
  rw[qI3]
  first | exact qU4 _ | exact qT7 _
 have b:=qX2 (toB (qA5 a [] ps)) 0 (toB (qA5 a [] ps)).length _ _ _ (by rw[dZ,List.take_length];exact e);rw[c,d,Nat.zero_add] at b;exact b
theorem xZ0(d:Nat)(x:Int)(W):(Op.equalIn (d+1) 5 (.int .u8 x) (.int .u8 x)).run prog W=.ok true W:=by
 simp[Op.equalIn,run_underlying underlying5]
theorem jU2(d:Nat)(E)(b:allBytes E)(W):∀ a:List Nat,(∀ i∈a,i<E.size)->(Op.eqItems (d+1) 5 1 E E a).run prog W=.ok true W:=by
 intro a
 induction a with
 | nil=>intro _;rfl
 | cons i a ih=>
  intro h;have f:=h i sM;obtain⟨x,k⟩:=b E[i] sM;have c:E[i*1]?=some (.int .u8 x):=by rw[Nat.mul_one,Array.getElem?_eq_getElem f,k]
  simp only[Op.eqItems,Sem.run_bind,run_part_plain W (P:=prog) (e:=5) kR c,Result.andThen_ok,xZ0,Bool.not_true,Bool.false_eq_true,if_false];exact ih (λj g=>h j (by simp[g]))
theorem zX1(E)(c:E.size=128)(b:allBytes E)(W):Sem.run prog (Op.equalIn 10000 288 (.agg E) (.agg E)) W=.ok true W:=by
 obtain⟨d,a,_⟩:=info_parts Tryz.info5;have h:=run_equalIn_array (P:=prog) W 9999 E E underlying288 a;refine Eq.trans h ?_;rw[show prog.cellsOf 5=1 from by kernel_rfl];exact jU2 9998 E b W _ (λi a=>by rw[c];simpa using a)
theorem kH5(ps)  (w) (Q:∀ p∈ps,qC6 p) (O:2+meas ρ ps<=128) (hn:ps.length<=126):
  Calls prog 257 #[.agg (enc (toB (qA5 0 ps [])))] w λe R=>∃ q v,e=.returned (.tuple #[.pointer (some ⟨q,0,none⟩),.bool true])/\R.heap[q]?=some (.cells #[.int .i64 0,v,.slice none 0 0] 213)/\w.heap.size<=q/\
   R.ownsRow w.heap.size 185 2 v ps.length (qA3 ps)/\Kp [] w R:=by
 have ag:=qK3 0 ps [] oM oM sO Q sM;have x:=zh (qR6 0 ps [] (by simpa [qD6] using O));obtain⟨f,M⟩:∃ f:Nat,f=ps.length:=⟨_,rfl⟩;have N:=qS9 (toB (qA5 0 ps [])) 0 128 (qA5 0 ps []) ag x.out (by rw[dZ,tL (by rw[qI3];exact Nat.le_of_eq x.out)]);have Z:(enc (toB (qA5 0 ps [])))[0]?=some (.int .u8 0):=N 0 oM;have b1:(enc (toB (qA5 0 ps [])))[1]?=some (.int .u8 (f:Int)):=by
  rw[M];have h:=N 1 oM;simpa [qA5,qL7] using h
 have ah:(enc (toB (qA5 0 ps []))).size=128:=by rw[qI7,qI3];exact x.out
 obtain⟨E,g⟩:=eX (enc (toB (qA5 0 ps [])));have d:Hid (E=enc (toB (qA5 0 ps []))/\E.size=128):=⟨g,by rw[g];exact ah⟩;rw[<-g] at Z b1;rw[<-g];have T:=zh M;have F:=zh Q;have U:=zh O;clear N M ag Q O ah g;go_enter func257,ntmps257;go_wp2_with fail;have ac:=ν (.cells #[ϊ 0,.slice none 0 0,.slice none 0 0] 213) (υ w (.cells E 288));have I:=υ (w.alloc (.cells E 288)) (.cells #[ϊ 0,.slice none 0 0,.slice none 0 0] 213);rw[show (w.alloc (.cells E 288)).heap.size=w.heap.size+1 from by simp] at I;have ad:Kp [] w ((w.alloc (.cells E 288)).alloc (.cells #[ϊ 0,.slice none 0 0,.slice none 0 0] 213)):=(kF.alloc _).alloc _;have av:∀ o:Nat,2+meas ρ (ps.take 0)=o->o=2:=λo h=>by rw[<-h];simp[qD6]
 go_loopw [5,6,15] (λr o i wr=>∃ (j a:Nat) (s:Value),j<=ps.length/\i=.int .u8 j/\o=.bool true/\Hid (a=2+meas ρ (ps.take j))/\Hid (a<128->r=.slice (some ⟨w.heap.size,a,none⟩) (128-a) (128-a))/\Hid (Ϙ wr w.heap.size (.cells E 288))/\Hid (wr.heap[w.heap.size+1]?=some (.cells #[ϊ 0,s,.slice none 0 0] 213))/\Hid (wr.ownsRow w.heap.size 185 2 s j (qA3 (ps.take j)))/\Hid (Kp [] w wr)) (λ_ _ i _=>ps.length-(intOf i).toNat)
 case atStart=>exact⟨0,2,.slice none 0 0,zL _,rfl,rfl,by show _=_;simp[qD6],λ_=>rfl,ac,I,by show World.ownsRow _ _ _ _ _ _ _;exact wN _ _ _ _,ad⟩
 case round=>
  obtain⟨j,a,s,hj,rfl,rfl,C,HR,A,u,X,B⟩:=hrel;clear ac I ad av Z b1;by_cases m:j<ps.length
  .have ay:(j:Int)<(f:Int):=by have:=T.out;omega
   have az:=F.out ps[j] (gM m);have a4:=zA2 ρ ps j m;have a5:a+ρ ps[j]<=128:=by have:=C.out;have:=U.out;omega
   have a1:0<ρ ps[j]:=by unfold ρ;omega
   have hr:=HR.out oM;subst hr;have am:Hid (((toB (qA5 0 ps [])).drop a).take (ρ ps[j])=toB (qD9 ps[j])):=by show _=_;rw[C.out];exact kD4 ps  j m
   have y:=u.out;have a3:=ζ y;have n0:=ξ y;have au:=φ y 1;clear y;go_wp2_with fail;have ab:Ϙ wr w.heap.size (.cells (enc (toB (qA5 0 ps []))) 288):=by rw[<-d.out.1];exact A.out
   refine (kI4 w.heap.size w.heap.size a (toB (qA5 0 ps [])) ps[j] (ps.take j) _ wr ab (by rw[qI3];exact x.out) az oM am.out (by rw[lK,Nat.min_eq_left oM];exact X.out) (by have:=B.out.size;omega) (by rw[lK];omega)).mono ?_;rintro e w1 ⟨v1,r1,rfl,aj,_,n,af,P⟩;have z:(ps.take j).length=j:=by rw[lK,Nat.min_eq_left oM]
   rw[z] at n;obtain⟨g1,ar,rfl⟩:=qO0 n;have ak:=(tA m).symm;rw[ak] at n;have k:=P _ _ _ _ u.out dC;have aa:=P _ _ _ _ A.out dC;have a2:=ζ k;have m1:=ϻ k 1;have a0:=φ k 1;have V:=zh k;have al:=zh aa;have ao:=zh n;have an:=zh (Kp.of_below ((B.out.below lR sM).trans af) lR);have aq:=zh aj;have ap:Hid (a+ρ ps[j]=2+meas ρ (ps.take (j+1))):=by show _=_;rw[qL6 ρ ps j m,C.out];omega
   have a6:IntKind.u8.wrap ((j:Int)+1)=(j:Int)+1:=by rw[IntKind.wrap_u8];omega
   clear k aa n af P aj n0 au ak z ab;go_wp2;have H:Kp [w.heap.size+1] w1 (w1.setCell ⟨w.heap.size+1,1,none⟩ (.slice (some ⟨g1,0,none⟩) (j+1) ar)):=kF.sc _;exact⟨⟨j+1,a+ρ ps[j],_,oM,by go_num,rfl,ap,aq,H.hp al.out,μ V.out 1 _,qJ2 ao.out H (λq hq c t fr e=>by rw[mS hq,V.out] at e;cases e;decide),an.out.tr H⟩,by simp[intOf];omega⟩
  .have ay:¬(j:Int)<(f:Int):=by have:=T.out;omega
   have ai:ps.take j=ps:=tL oM;have z:j=ps.length:=oM
   have J:=X.out;rw[ai,z] at J;have Y:=zh J;clear ai J;go_wp2_with fail;have b:Ϙ wr.drew w.heap.size (.cells E 288):=A.out;refine wp_region_held_drew (S:=λW=>Ϙ W w.heap.size (.cells E 288)) kR b (λ_=>?_);refine zU 0 (ϖ (w.heap.size+1)) b ?_;refine zU 1 (ϖ (w.heap.size+1)) b ?_;refine zV 3 (.agg E) rfl (λW L=>qR4 (t:=288) rfl kR 128 kR w.heap.size rfl L d.out.2) b ?_;refine zq 2 λK hK=>?_;go_simp;refine (zK4 (w.heap.size+1) 0 s (.slice none 0 0) ps [] wr.drew u.out oM oM (qL0 Y.out) ⟨rfl,Or.inl ⟨rfl,none,0,rfl,λ_=>rfl⟩⟩ (by simpa [qD6] using U.out) sO F.out sM).mono ?_;rintro e w1 ⟨rfl,G⟩;have l:=G.hp b;refine hK.out _ _ l (λ_=>?_);have ax:(u8s (qA5 0 ps [])).toArray=E:=by rw[d.out.1,enc,<-zI6 _ (qK3 0 ps [] oM oM sO F.out sM)]
   rw[ax]
   try simp only[zZ]
   have aw:allBytes E:=by rw[d.out.1];exact qM1 _
   refine zV 4 (.bool true) rfl (λW L=>by have h:=zX1 E d.out.2 aw W;clear L;go_simp) l ?_;refine zq 5 λK hK=>?_;go_simp;refine zk hK l ?_
   refine zq 6 λK hK=>?_;go_simp;refine zk hK l ?_
   refine zd ?_;have ae:Kp [] wr w1:=((Kp.refl _ wr).drew).tr G;have D:=zh ae;clear ae G l b;go_wp2
   go_ret2
   exact⟨w.heap.size+1,s,rfl,D.out.hp u.out,oM,qJ2 Y.out D.out (Apt.nil _ _),B.out.tr D.out⟩
theorem kH4(ps)(a:Int)(a1:0<a)(F:a<256)(w)(V:∀ p∈ps,p.p=none/\p.key.size<=8/\0<=p.b/\p.b<65536/\0<=p.s/\p.s<18446744073709551616)(T:2+meas qA0 ps<=128)(hn:ps.length<=126):
  Calls prog 257 #[.agg (enc (toB (qA5 a [] ps)))] w λe X=>∃ q v,e=.returned (.tuple #[.pointer (some ⟨q,0,none⟩),.bool true])/\X.heap[q]?=some (.cells #[.int .i64 a,.slice none 0 0,v] 213)/\w.heap.size<=q/\
   X.ownsRow w.heap.size 87 4 v ps.length (qA7 ps)/\Kp [] w X:=by
 have ai:=qK3 a [] ps oM F sO sM (λp d=>(V p d).2.1);have B:=zh (qR6 a [] ps (by simpa [qD6] using T));obtain⟨m,Q⟩:∃ m:Nat,m=ps.length:=⟨_,rfl⟩;have R:=qS9 (toB (qA5 a [] ps)) 0 128 (qA5 a [] ps) ai B.out (by rw[dZ,tL (by rw[qI3];exact Nat.le_of_eq B.out)]);have b0:(enc (toB (qA5 a [] ps)))[0]?=some (.int .u8 a):=R 0 oM;have b1:(enc (toB (qA5 a [] ps)))[1]?=some (.int .u8 (m:Int)):=by
  rw[Q];have h:=R 1 oM;simpa [qA5,qL7] using h
 have aj:(enc (toB (qA5 a [] ps))).size=128:=by rw[qI7,qI3];exact B.out
 obtain⟨E,n⟩:=eX (enc (toB (qA5 a [] ps)));have l:Hid (E=enc (toB (qA5 a [] ps))/\E.size=128):=⟨n,by rw[n];exact aj⟩;rw[<-n] at b0 b1;rw[<-n];have Y:=zh Q;have f:=zh V;have Z:=zh T;clear R Q ai V T aj n;go_enter func257,ntmps257;go_wp2_with fail;have ae:=ν (.cells #[ϊ a,.slice none 0 0,.slice none 0 0] 213) (υ w (.cells E 288));have N:=υ (w.alloc (.cells E 288)) (.cells #[ϊ a,.slice none 0 0,.slice none 0 0] 213);rw[show (w.alloc (.cells E 288)).heap.size=w.heap.size+1 from by simp] at N;have af:Kp [] w ((w.alloc (.cells E 288)).alloc (.cells #[ϊ a,.slice none 0 0,.slice none 0 0] 213)):=(kF.alloc _).alloc _;have ax:∀ o:Nat,2+meas qA0 (ps.take 0)=o->o=2:=λo h=>by rw[<-h];simp[qD6]
 go_loopw [5,6,15] (λr o i wr=>∃ (j b:Nat) (z:Value),j<=ps.length/\i=.int .u8 j/\o=.bool true/\Hid (b=2+meas qA0 (ps.take j))/\Hid (b<128->r=.slice (some ⟨w.heap.size,b,none⟩) (128-b) (128-b))/\Hid (Ϙ wr w.heap.size (.cells E 288))/\Hid (wr.heap[w.heap.size+1]?=some (.cells #[ϊ a,.slice none 0 0,z] 213))/\Hid (wr.ownsRow w.heap.size 87 4 z j (qA7 (ps.take j)))/\Hid (Kp [] w wr)) (λ_ _ i _=>ps.length-(intOf i).toNat)
 case atStart=>exact⟨0,2,.slice none 0 0,zL _,rfl,rfl,by show _=_;simp[qD6],λ_=>rfl,ae,N,by show World.ownsRow _ _ _ _ _ _ _;exact wN _ _ _ _,af⟩
 case round=>
  obtain⟨j,b,z,hj,rfl,rfl,I,HR,G,A,HO,H⟩:=hrel;clear ae N af ax b0 b1;by_cases x:j<ps.length
  .have a0:(j:Int)<(m:Int):=by have:=Y.out;omega
   have k:=f.out ps[j] (gM x);have a6:=zA2 qA0 ps j x;have a7:b+qA0 ps[j]<=128:=by have:=I.out;have:=Z.out;omega
   have a3:0<qA0 ps[j]:=by unfold qA0;omega
   have hr:=HR.out oM;subst hr;have ao:Hid (((toB (qA5 a [] ps)).drop b).take (qA0 ps[j])=toB (qE3 ps[j])):=by show _=_;rw[I.out];exact kD3 ps a a1 F j x
   have C:=A.out;have a5:=ζ C;have n0:=ξ C;have aw:=φ C 2;clear C;go_wp2_with fail;have ad:Ϙ wr w.heap.size (.cells (enc (toB (qA5 a [] ps))) 288):=by rw[<-l.out.1];exact G.out
   refine (kI1 w.heap.size w.heap.size b (toB (qA5 a [] ps)) ps[j] (ps.take j) _ wr ad (by rw[qI3];exact B.out) k.1 k.2.1 k.2.2.1 k.2.2.2.1 k.2.2.2.2.1 k.2.2.2.2.2 oM ao.out (by rw[lK,Nat.min_eq_left oM];exact HO.out) (by have:=H.out.size;omega) (by rw[lK];omega)).mono ?_;rintro e w1 ⟨v1,r1,rfl,al,_,y,ah,U⟩;have D:(ps.take j).length=j:=by rw[lK,Nat.min_eq_left oM]
   rw[D] at y;obtain⟨g1,av,rfl⟩:=qO0 y;have am:=(tA x).symm;rw[am] at y;have s:=U _ _ _ _ A.out dC;have ac:=U _ _ _ _ G.out dC;have a4:=ζ s;have m1:=ϻ s 2;have a2:=φ s 2;have aa:=zh s;have an:=zh ac;have aq:=zh y;have ap:=zh (Kp.of_below ((H.out.below lR sM).trans ah) lR);have au:=zh al;have ar:Hid (b+qA0 ps[j]=2+meas qA0 (ps.take (j+1))):=by show _=_;rw[qL6 qA0 ps j x,I.out];omega
   have a8:IntKind.u8.wrap ((j:Int)+1)=(j:Int)+1:=by rw[IntKind.wrap_u8];omega
   clear s ac y ah U al n0 aw am D ad;go_wp2;have M:Kp [w.heap.size+1] w1 (w1.setCell ⟨w.heap.size+1,2,none⟩ (.slice (some ⟨g1,0,none⟩) (j+1) av)):=kF.sc _;exact⟨⟨j+1,b+qA0 ps[j],_,oM,by go_num,rfl,ar,au,M.hp an.out,μ aa.out 2 _,qJ2 aq.out M (λq hq c t fr e=>by rw[mS hq,aa.out] at e;cases e;decide),ap.out.tr M⟩,by simp[intOf];omega⟩
  .have a0:¬(j:Int)<(m:Int):=by have:=Y.out;omega
   have ak:ps.take j=ps:=tL oM;have D:j=ps.length:=oM
   have O:=HO.out;rw[ak,D] at O;have ab:=zh O;clear ak O;go_wp2_with fail;have g:Ϙ wr.drew w.heap.size (.cells E 288):=G.out;refine wp_region_held_drew (S:=λW=>Ϙ W w.heap.size (.cells E 288)) kR g (λ_=>?_);refine zU 0 (ϖ (w.heap.size+1)) g ?_;refine zU 1 (ϖ (w.heap.size+1)) g ?_;refine zV 3 (.agg E) rfl (λW P=>qR4 (t:=288) rfl kR 128 kR w.heap.size rfl P l.out.2) g ?_;refine zq 2 λK hK=>?_;go_simp;refine (zK4 (w.heap.size+1) a (.slice none 0 0) z [] ps wr.drew A.out oM F ⟨rfl,Or.inl ⟨rfl,none,0,rfl,λ_=>rfl⟩⟩ (qL0 ab.out) (by simpa [qD6] using Z.out) sO sM (λp d=>⟨(f.out p d).2.1,(f.out p d).2.2.1,by have:=(f.out p d).2.2.2.1;omega,(f.out p d).2.2.2.2.1⟩)).mono ?_;rintro e w1 ⟨rfl,L⟩;have u:=L.hp g;refine hK.out _ _ u (λ_=>?_);have az:(u8s (qA5 a [] ps)).toArray=E:=by rw[l.out.1,enc,<-zI6 _ (qK3 a [] ps oM F sO sM (λp d=>(f.out p d).2.1))]
   rw[az]
   try simp only[zZ]
   have ay:allBytes E:=by rw[l.out.1];exact qM1 _
   refine zV 4 (.bool true) rfl (λW P=>by have h:=zX1 E l.out.2 ay W;clear P;go_simp) u ?_;refine zq 5 λK hK=>?_;go_simp;refine zk hK u ?_
   refine zq 6 λK hK=>?_;go_simp;refine zk hK u ?_
   refine zd ?_;have ag:Kp [] wr w1:=((Kp.refl _ wr).drew).tr L;have J:=zh ag;clear ag L u g;go_wp2
   go_ret2
   exact⟨w.heap.size+1,z,rfl,J.out.hp A.out,oM,qJ2 ab.out J.out (Apt.nil _ _),H.out.tr J.out⟩
variable {κ:Nat}
theorem xM4(V A n C:Nat)(f m:Int)(i:Nat)(l)(ps)  (w) (hV:w.heap[V]?=some (qE4 A n)) (h:w.heap[A]?=some (qA8 κ n C (.slice none 0 0) f m))
  (hi:i<n) (hn:n<=1000) (Q:w.heap[C]?=some (.cells (enc l) 115)) (hs:n*128<=l.length) (an:C≠A) (ao:V≠A) (ab:qB3 l i=toB (qA5 0 ps [])) (H:∀ p∈ps,qC6 p) (G:2+meas ρ ps<=128) (ap:ps.length<=126):
  Calls prog 217 #[.pointer (some ⟨V,0,none⟩),.agg #[.int .i64 i,.int .u64 (fnv (qA5 0 ps []))]] w λe d=>∃ q v,e=.returned (.tuple #[.pointer (some ⟨q,0,none⟩),.bool true])/\d.heap[q]?=some (.cells #[.int .i64 0,v,.slice none 0 0] 213)/\w.heap.size<=q/\
   d.ownsRow w.heap.size 185 2 v ps.length (qA3 ps)/\d.heap[A]?=some (qA8 κ n C (.slice none 0 0) (nx f) m)/\Kp [A] w d:=by
 have ac:=qK3 0 ps [] oM oM sO H sM;have s:=qR6 0 ps [] (by simpa [qD6] using G);obtain⟨E,o⟩:=eX (enc (toB (qA5 0 ps [])));have x:E.size=128:=by rw[o,qI7,qI3];exact s
 have ad:=qS9 (toB (qA5 0 ps [])) 0 128 (qA5 0 ps []) ac s (by rw[dZ,tL (by rw[qI3];exact Nat.le_of_eq s)]);have J:Hid (∀ W,Kp [] w W->Ω 247 #[ϖ V,ϊ i] W λe d=>e=ϱ (.agg E)/\Ϙ d A (qA8 κ n C (.slice none 0 0) (nx f) m)/\Kp [A] W d):=λW hK=>by
  have h:=zP1 V A n C f m i l W (hK.hp hV) (hK.hp h) hi hn (hK.hp Q) hs an ao;rw[ab,<-o] at h;exact h
 have al:=zh (λW=>by
  have h:=kH5 ps  W H G ap;rw[<-o] at h;exact h)
 obtain⟨S,r⟩:=eX (fnv (qA5 0 ps []));have am:Hid (∀ W b cap,Ϙ W b (.cells E 288)->Ω 251 #[.slice (some ⟨b,0,none⟩) 128 cap] W λe d=>e=ϱ (.int .u64 S)/\d=W):=λW b cap hb=>by
  rw[r];refine zI0 b 0 128 cap (qA5 0 ps []) W s oM (λj hj=>?_);rw[ξ hb,o];exact ad j hj
 rw[<-r];have R:∀ v∈E.toList,v.oneCell'=true:=by rw[o];exact (qM1 _).one
 have I:=zh x;have au:=ζ h;clear ad r o ac s H G ab hs Q hV h;go_enter func217,ntmps217;go_wp2_with fail;obtain⟨w0,ah,Y,B,av⟩:=qF7 w (.cells #[ϊ (i:Int),.int .u64 S] 84);rw[<-ah];clear ah;refine (J w0 B).mono ?_;rintro e w1 ⟨rfl,L,y⟩;have Z:=y.ho Y;have T:Kp [A] w w1:=(B.mono sM).tr y;have aw:=y.size;clear y Y B J;go_wp2_with fail;have F:=υ w1 (.cells zeroCells288 288);rw[qP9 F (by simp[qL1,x]) R];rw[show E.toList.toArray=E from by simp,qP5 (by rw[qL1,x])];obtain⟨c,ai,u,aa,M,U,ax⟩:∃ c,c=(w1.alloc (.cells zeroCells288 288)).setRow w1.heap.size E/\Ϙ c w1.heap.size (.cells E 288)/\Ϙ c w.heap.size (.cells #[ϊ (i:Int),.int .u64 S] 84)/\Ϙ c A (qA8 κ n C (.slice none 0 0) (nx f) m)/\Kp [A] w c/\c.heap.size=w1.heap.size+1:=
  ⟨_,rfl,setRow_heap _ _ _ _ _ _ F,(setRow_other _ _ _ _ oM).trans (ν _ Z),(setRow_other _ _ _ _ oM).trans (ν _ L),(T.alloc _).setRow (Or.inr oM) _,sM⟩
 rw[<-ai];clear ai F Z L x R;go_wp2_with fail;have g:Ϙ c.drew w1.heap.size (.cells E 288)/\Ϙ c.drew w.heap.size (.cells #[ϊ (i:Int),.int .u64 S] 84):=⟨u,aa⟩;refine wp_region_held_drew (S:=λW=>Ϙ W w1.heap.size (.cells E 288)/\Ϙ W w.heap.size (.cells #[ϊ (i:Int),.int .u64 S] 84)) kR g (λ_=>?_);refine zU 0 (.slice (some ⟨w1.heap.size,0,none⟩) 128 128) g ?_;refine zP 2 w.heap.size 1 g ?_;refine zV 3 (.int .u64 S) rfl (λW r=>by have a:=ϻ r.2 1;clear r;go_simp) g ?_;refine zq 1 λK hK=>?_;go_simp;refine (am c.drew w1.heap.size 128 u).mono ?_;rintro e d ⟨rfl,ag⟩;rw[ag];clear ag d;refine zk hK g ?_
 refine zU 4 (.bool false) g ?_;refine zd ?_;obtain⟨k,aj,P,N,X,ay⟩:∃ k,k=c.drew/\Ϙ k w1.heap.size (.cells E 288)/\Ϙ k A (qA8 κ n C (.slice none 0 0) (nx f) m)/\Kp [A] w k/\k.heap.size=c.heap.size:=⟨_,rfl,u,M,U.drew,rfl⟩;rw[<-aj];have aq:qA9 E 0 128=E:=by rw[<-I.out];simp[qA9,tL]
 clear aj g u aa M U T
 go_wp2_with (
  with_reducible refine qX6 (t:=288) ?_ 128 ?_ w1.heap.size 0 ?_ E 288 (0,0) ?_ ?_ ?_
  .kernel_rfl
  .kernel_rfl
  .rfl
  .exact P
  .have:=I.out;omega)
 refine (al k).mono ?_;rintro e z ⟨q,v,rfl,af,ar,ae,D⟩;have O:=D.hp N;have ak:Hid (Ϙ z q (.cells #[ϊ 0,v,.slice none 0 0] 213)/\w.heap.size<=q/\z.ownsRow w.heap.size 185 2 v ps.length (qA3 ps)/\Ϙ z A (qA8 κ n C (.slice none 0 0) (nx f) m)/\Kp [A] w z):=⟨af,oM,qK4 ae oM,O,X.tr D⟩;clear af ar ae D O N P X aq;go_wp2
 go_ret2
 exact⟨q,v,rfl,ak⟩
theorem xM3(V A n C:Nat)(g o:Int)(i:Nat)(l)(ps)(c:Int)(ar:0<c)(af:c<256)(w)(hV:w.heap[V]?=some (qE4 A n))(h:w.heap[A]?=some (qA8 κ n C (.slice none 0 0) g o))
  (hi:i<n) (hn:n<=1000) (R:w.heap[C]?=some (.cells (enc l) 115)) (hs:n*128<=l.length) (ap:C≠A) (aq:V≠A) (ac:qB3 l i=toB (qA5 c [] ps)) (I:∀ p∈ps,p.p=none/\p.key.size<=8/\0<=p.b/\p.b<65536/\0<=p.s/\p.s<18446744073709551616) (H:2+meas qA0 ps<=128) (au:ps.length<=126):
  Calls prog 217 #[.pointer (some ⟨V,0,none⟩),.agg #[.int .i64 i,.int .u64 (fnv (qA5 c [] ps))]] w λe f=>∃ q v,e=.returned (.tuple #[.pointer (some ⟨q,0,none⟩),.bool true])/\f.heap[q]?=some (.cells #[.int .i64 c,.slice none 0 0,v] 213)/\w.heap.size<=q/\
   f.ownsRow w.heap.size 87 4 v ps.length (qA7 ps)/\f.heap[A]?=some (qA8 κ n C (.slice none 0 0) (nx g) o)/\Kp [A] w f:=by
 have ad:=qK3 c [] ps oM af sO sM (λp hp=>(I p hp).2.1);have u:=qR6 c [] ps (by simpa [qD6] using H);obtain⟨E,r⟩:=eX (enc (toB (qA5 c [] ps)));have y:E.size=128:=by rw[r,qI7,qI3];exact u
 have ae:=qS9 (toB (qA5 c [] ps)) 0 128 (qA5 c [] ps) ad u (by rw[dZ,tL (by rw[qI3];exact Nat.le_of_eq u)]);have L:Hid (∀ W,Kp [] w W->Ω 247 #[ϖ V,ϊ i] W λe f=>e=ϱ (.agg E)/\Ϙ f A (qA8 κ n C (.slice none 0 0) (nx g) o)/\Kp [A] W f):=λW hK=>by
  have h:=zP1 V A n C g o i l W (hK.hp hV) (hK.hp h) hi hn (hK.hp R) hs ap aq;rw[ac,<-r] at h;exact h
 have an:=zh (λW=>by
  have h:=kH4 ps c ar af W I H au;rw[<-r] at h;exact h)
 obtain⟨S,s⟩:=eX (fnv (qA5 c [] ps));have ao:Hid (∀ W b cap,Ϙ W b (.cells E 288)->Ω 251 #[.slice (some ⟨b,0,none⟩) 128 cap] W λe f=>e=ϱ (.int .u64 S)/\f=W):=λW b cap hb=>by
  rw[s];refine zI0 b 0 128 cap (qA5 c [] ps) W u oM (λj hj=>?_);rw[ξ hb,r];exact ae j hj
 rw[<-s];have T:∀ v∈E.toList,v.oneCell'=true:=by rw[r];exact (qM1 _).one
 have J:=zh y;have ax:=ζ h;clear ae s r ad u I H ac hs R hV h;go_enter func217,ntmps217;go_wp2_with fail;obtain⟨w0,aj,Z,D,ay⟩:=qF7 w (.cells #[ϊ (i:Int),.int .u64 S] 84);rw[<-aj];clear aj;refine (L w0 D).mono ?_;rintro e w1 ⟨rfl,M,z⟩;have aa:=z.ho Z;have U:Kp [A] w w1:=(D.mono sM).tr z;have az:=z.size;clear z Z D L;go_wp2_with fail;have G:=υ w1 (.cells zeroCells288 288);rw[qP9 G (by simp[qL1,y]) T];rw[show E.toList.toArray=E from by simp,qP5 (by rw[qL1,y])];obtain⟨d,ak,x,ab,N,X,a0⟩:∃ d,d=(w1.alloc (.cells zeroCells288 288)).setRow w1.heap.size E/\Ϙ d w1.heap.size (.cells E 288)/\Ϙ d w.heap.size (.cells #[ϊ (i:Int),.int .u64 S] 84)/\Ϙ d A (qA8 κ n C (.slice none 0 0) (nx g) o)/\Kp [A] w d/\d.heap.size=w1.heap.size+1:=
  ⟨_,rfl,setRow_heap _ _ _ _ _ _ G,(setRow_other _ _ _ _ oM).trans (ν _ aa),(setRow_other _ _ _ _ oM).trans (ν _ M),(U.alloc _).setRow (Or.inr oM) _,sM⟩
 rw[<-ak];clear ak G aa M y T;go_wp2_with fail;have k:Ϙ d.drew w1.heap.size (.cells E 288)/\Ϙ d.drew w.heap.size (.cells #[ϊ (i:Int),.int .u64 S] 84):=⟨x,ab⟩;refine wp_region_held_drew (S:=λW=>Ϙ W w1.heap.size (.cells E 288)/\Ϙ W w.heap.size (.cells #[ϊ (i:Int),.int .u64 S] 84)) kR k (λ_=>?_);refine zU 0 (.slice (some ⟨w1.heap.size,0,none⟩) 128 128) k ?_;refine zP 2 w.heap.size 1 k ?_;refine zV 3 (.int .u64 S) rfl (λW s=>by have a:=ϻ s.2 1;clear s;go_simp) k ?_;refine zq 1 λK hK=>?_;go_simp;refine (ao d.drew w1.heap.size 128 x).mono ?_;rintro e f ⟨rfl,ai⟩;rw[ai];clear ai f;refine zk hK k ?_
 refine zU 4 (.bool false) k ?_;refine zd ?_;obtain⟨m,al,Q,O,Y,a1⟩:∃ m,m=d.drew/\Ϙ m w1.heap.size (.cells E 288)/\Ϙ m A (qA8 κ n C (.slice none 0 0) (nx g) o)/\Kp [A] w m/\m.heap.size=d.heap.size:=⟨_,rfl,x,N,X.drew,rfl⟩;rw[<-al];have av:qA9 E 0 128=E:=by rw[<-J.out];simp[qA9,tL]
 clear al k x ab N X U
 go_wp2_with (
  with_reducible refine qX6 (t:=288) ?_ 128 ?_ w1.heap.size 0 ?_ E 288 (0,0) ?_ ?_ ?_
  .kernel_rfl
  .kernel_rfl
  .rfl
  .exact Q
  .have:=J.out;omega)
 refine (an m).mono ?_;rintro e B ⟨q,v,rfl,ah,aw,ag,F⟩;have P:=F.hp O;have am:Hid (Ϙ B q (.cells #[ϊ c,.slice none 0 0,v] 213)/\w.heap.size<=q/\B.ownsRow w.heap.size 87 4 v ps.length (qA7 ps)/\Ϙ B A (qA8 κ n C (.slice none 0 0) (nx g) o)/\Kp [A] w B):=⟨ah,oM,qK4 ag oM,P,Y.tr F⟩;clear ah aw ag F P O Q Y av;go_wp2
 go_ret2
 exact⟨q,v,rfl,am⟩
theorem jO5(s x:Int):qV3 s x<18446744073709551616:=by
 unfold qV3;rw[IntKind.wrap_u64];omega
theorem xC1(xs:List Int):fnv xs<18446744073709551616:=by
 unfold fnv;rcases List.eq_nil_or_concat xs with h|⟨l,a,h⟩
 .rw[h];decide
 .rw[h,List.concat_eq_append,List.foldl_append];exact jO5 _ _
def Laid(N:Nat)(l:List UInt8):(n:Nat)→Nat→Int→Tn n→Prop
 | 0,b,s,t=>2≤b∧b<N∧s=fnv (qA5 0 (prs t) [])∧qB3 l b=toB (qA5 0 (prs t) [])∧(∀ p∈prs t,qC6 p)∧2+meas ρ (prs t)≤128∧(prs t).length≤126
 | n+1,b,s,t=>2≤b∧b<N∧n+1<6∧∃ hs:List HL,Both (RLof (fun _ _=>False) (Laid N l n)) hs (η t)∧s=fnv (qA5 ((n+1:Nat):Int) [] hs)∧qB3 l b=toB (qA5 ((n+1:Nat):Int) [] hs)∧(∀ h∈hs,h.key.size≤8)∧2+meas qA0 hs≤128∧hs.length≤126
theorem Laid.at{N:Nat}{l}:∀ {n b:Nat} {s:Int} {t},Laid N l n b s t->2<=b/\b<N/\0<=s/\s<18446744073709551616/\n<6
 | 0,_,_,_,h=>⟨h.1,h.2.1,by rw[h.2.2.1];exact qY8 _,by rw[h.2.2.1];exact xC1 _,oM⟩
 | _+1,_,_,_,h=>by
  obtain⟨c,d,e,f,_,a,_⟩:=h;exact⟨c,d,by rw[a];exact qY8 _,by rw[a];exact xC1 _,e⟩
theorem Laid.links{N:Nat}{l}{n:Nat}{b}{ls}(h:Both (RLof (λ_ _=>False) (Laid N l n)) b ls)(j:∀ h∈b,h.key.size<=8)(r:N<=1000):
  ∀ p∈b,p.p=none/\p.key.size<=8/\0<=p.b/\p.b<65536/\0<=p.s/\p.s<18446744073709551616:=by
 intro p d;obtain⟨i,c,rfl⟩:=gO d;have a:=(h.2 i c (by rw[<-h.1];exact c)).2;split at a
 .obtain⟨_,_,q,_,g⟩:=a;exact g.elim
 .obtain⟨k,m,e,f⟩:=a;have o:=f.at;exact⟨e,j _ d,oM,oM,oM,oM⟩
structure Devl(V A N C:Nat)(l:List UInt8)(wr:Int)(w:World):Prop where
 hV:w.heap[V]?=some (qE4 A N)
 hA:∃ calls,w.heap[A]?=some (qA8 (l.length / 128) N C (.slice none 0 0) calls wr)
 hC:w.heap[C]?=some (.cells (enc l) 115)
theorem kP6(V A N C:Nat)(l)(j:Int)(I:N<=1000)(hs:N*128<=l.length)(m:C≠A)(u:V≠A)(n:Nat)(h r)(L)(a:Int)(w)(y:Devl V A N C l j w)(hr:RL (Laid N l) n w h L)(K:h.p=none)(ha:(n:Int)<a):
  Calls prog 150 #[τ V r,qC0 h,.int .i64 a] w λe c=>∃ q,e=.returned (.pointer (some ⟨q,0,none⟩))/\RN (Laid N l) n c q L.sub/\Devl V A N C l j c/\Kp [A] w c:=by
 obtain⟨O,R⟩:=y.hA;have hO:∃ b s,h.b=(b:Nat)/\h.s=s/\Laid N l n b s L.sub:=by
  have f:=hr.2
  cases hl:L.ref with
  | none=>
   rw[hl] at f;obtain⟨_,_,q',Q,_⟩:=f;rw[K] at Q;cases Q
  | some x=>
   rw[hl] at f;exact⟨x.1,x.2,f.1,f.2.1,f.2.2.2⟩
 obtain⟨b,s,Y,ab,p⟩:=hO;have ae:=p.at.2.2.2.2;have M:Hid (∀ W,Kp [] w W->Ω 217 #[ϖ V,.agg #[ϊ b,.int .u64 s]] W λe c=>∃ q vp vl,e=ϱ (.tuple #[ϖ q,.bool true])/\Ϙ c q (ι (n:Int) vp vl)/\RN (Laid N l) n c q L.sub/\Devl V A N C l j c/\Kp [A] W c):=by
  intro W hK;have t:=hK.hp y.hV;have S:=hK.hp R;have o:=hK.hp y.hC
  cases n with
  | zero=>
   obtain⟨g1,B,P,k,D,E,F⟩:=p;rw[P];refine (xM4 V A N C O j b l (prs L.sub) W t S B I o hs m u k D E F).mono ?_;rintro e c ⟨q,v,rfl,d,_,J,G,g⟩;exact⟨q,v,.slice none 0 0,rfl,d,⟨v,d,qL0 J⟩,⟨g.heap t (by simpa using u),⟨_,G⟩,g.heap o (by simpa using m)⟩,g⟩
  | succ n=>
   obtain⟨g1,B,P,aa,k,D,E,F,g8,g9⟩:=p;rw[D];refine (xM3 V A N C O j b l aa ((n+1:Nat):Int) oM oM W t S B I o hs m u E (Laid.links k F I) g8 g9).mono ?_;rintro e c ⟨q,v,rfl,d,_,J,G,g⟩;exact⟨q,.slice none 0 0,v,rfl,d,⟨v,d,aa,qL0 J,⟨k.1,λi h1 f=>(k.2 i h1 f).mono (λ_ h=>h.elim) (λ_ _ h=>h)⟩⟩,⟨g.heap t (by simpa using u),⟨_,G⟩,g.heap o (by simpa using m)⟩,g⟩
 have Z:h.ptr=none:=by simp[HL.ptr,K]
 rw[τ,qC0,Z,Y,ab];clear hr y p R K Y ab Z;go_enter func150,ntmps150;go_wp2_with fail;obtain⟨z,ac,H⟩:∃ z,z=(w.alloc (.cells (ϟ V r) 89)).alloc (.cells #[.string h.key,ϊ (b:Int),.int .u64 s,.pointer none] 87)/\Kp [] w z:=⟨_,rfl,(kF.alloc _).alloc _⟩;rw[<-ac];clear ac;refine (M z H).mono ?_;rintro e w1 ⟨q,vp,vl,rfl,d,X,T,U⟩;have ag:=ζ d;have c0:=ξ d 0;simp only[ι,zG,zH,zI] at c0;have af:¬a<=(n:Int):=oM
 have ad:Hid (RN (Laid N l) n w1 q L.sub/\Devl V A N C l j w1/\Kp [A] w w1):=⟨X,T,(H.mono sM).tr U⟩;clear d X T U H M;go_wp2;go_ret;exact⟨q,rfl,ad⟩
def EL(V A N C:Nat)(l:List UInt8)(writes:Int)(hN:N≤1000)(hs:N*128≤l.length)(hAC:C≠A)(hVA:V≠A):SEnv where
 O:=Laid N l
 V:=V
 S:=[A]
 Dev:=Devl V A N C l writes
 keep:=fun w w' L hd hK hL=>by
  obtain⟨calls,hA⟩:=hd.hA;have h1:∀ k c t fr,w.heap[k]?=some (.cells c t fr)→t ∉ zF8→k ∉ L:=fun k c t fr e ht hm=>by
   obtain⟨c',t',fr',e',h'⟩:=hL k hm;rw[e] at e';cases e';exact ht h'
  exact⟨hK.heap hd.hV (h1 _ _ _ _ hd.hV (by decide)),⟨_,hK.heap hA (h1 _ _ _ _ hA (by decide))⟩,hK.heap hd.hC (h1 _ _ _ _ hd.hC (by decide))⟩
 apt:=fun w hd k hk c t fr e=>by
  obtain⟨calls,hA⟩:=hd.hA;rw[List.mem_singleton.1 hk,hA] at e;cases e;decide
 low:=fun w hd k hk=>by
  obtain⟨calls,hA⟩:=hd.hA;rw[List.mem_singleton.1 hk];exact ζ hA
 pos:=fun n b s t h=>by have:=h.at;omega
 lvl:=fun n b s t h=>h.at.2.2.2.2
 read:=fun n h r L a w hd hr hp ha=>kP6 V A N C l writes hN hs hAC hVA n h r L a w hd hr hp ha
 keepX:=fun w w' L hd hK hL=>by
  obtain⟨calls,hA⟩:=hd.hA;exact⟨hK.heap hd.hV (fun hm=>hL _ hm _ _ _ hd.hV (by decide)),⟨_,hK.heap hA (fun hm=>hL _ hm _ _ _ hA (by decide))⟩,hK.heap hd.hC (fun hm=>hL _ hm _ _ _ hd.hC (by decide))⟩
 offS:=fun w hd k hk=>by
  obtain⟨calls,hA⟩:=hd.hA;rw[List.mem_singleton.1 hk];exact⟨_,_,_,hA,by decide⟩
def lhl{X:Type}(l:Lnk X):HL:=⟨l.key,((l.ref.getD (0,0)).1:Int),(l.ref.getD (0,0)).2,none⟩
def qB2{X:Type}(f:Lnk X→List Nat→Lnk X × List (Nat × List UInt8) × List Nat):List (Lnk X)→List Nat→List (Lnk X) × List (Nat × List UInt8) × List Nat
 | [],fr=>([],[],fr)
 | l::ls,fr=>((f l fr).1::(qB2 f ls (f l fr).2.2).1,(f l fr).2.1++(qB2 f ls (f l fr).2.2).2.1,(qB2 f ls (f l fr).2.2).2.2)
def ψ:(n:Nat)→Lnk (Tn n)→List Nat→Lnk (Tn n) × List (Nat × List UInt8) × List Nat
 | 0,l,fr=>if l.ref.isSome then (l,[],fr) else (⟨l.key,some (fr.headD 0,fnv (qA5 0 (prs l.sub) [])),l.sub⟩,[(fr.headD 0,toB (qA5 0 (prs l.sub) []))],fr.tail)
 | n+1,l,fr=>if l.ref.isSome then (l,[],fr) else
   let r:=qB2 (ψ n) (η l.sub) fr
   (⟨l.key,some (r.2.2.headD 0,fnv (qA5 ((n+1:Nat):Int) [] (r.1.map lhl))),r.1⟩,r.2.1++[(r.2.2.headD 0,toB (qA5 ((n+1:Nat):Int) [] (r.1.map lhl)))],r.2.2.tail)
theorem xG0{X:Type}(f:Lnk X->List Nat->Lnk X × List (Nat × List UInt8) × List Nat):∀ (a:List (Lnk X)) (l:Lnk X) (fr),
  qB2 f (a++[l]) fr=((qB2 f a fr).1++[(f l (qB2 f a fr).2.2).1],(qB2 f a fr).2.1++(f l (qB2 f a fr).2.2).2.1,(f l (qB2 f a fr).2.2).2.2)
 | [],l,fr=>by simp[qB2]
 | x::a,l,fr=>by
  have h:=xG0 f a l (f x fr).2.2;simp only[cA,qB2,h,aA]
theorem qQ5{X:Type}(f:Lnk X->List Nat->Lnk X × List (Nat × List UInt8) × List Nat)(g:Lnk X->Nat):∀ (ls:List (Lnk X)) (a:List Nat),(∀ l∈ls,∀ a,(f l a).2.2=a.drop (g l))->(qB2 f ls a).2.2=a.drop (meas g ls)
 | [],a,_=>by simp[qB2,qD6]
 | l::ls,a,h=>by
  simp only[qB2];rw[qQ5 f g ls _ (λx b=>h x (by simp[b])),h l sM,List.drop_drop,qC1]
theorem qO5:∀ (n:Nat) (l:Lnk (Tn n)) (a:List Nat),(ψ n l a).2.2=a.drop (news n l)
 | 0,l,a=>by
  simp only[ψ,news];split<;>simp
 | n+1,l,a=>by
  simp only[ψ,news];split
  .simp
  .simp only;rw[qQ5 (ψ n) (news n) _ a (λl _ a=>qO5 n l a),<-List.drop_one,List.drop_drop]
   congr 1
   exact Nat.add_comm _ _
structure Wx(base:Nat)(S:List Nat)(w w':World):Prop where
 os:w'.os=w.os
 tape:w'.tape=w.tape
 output:w'.output=w.output
 size:w.heap.size≤w'.heap.size
 low:∀ k,k<base→k ∉ S→w'.heap[k]?=w.heap[k]?
 oth:∀ (k:Nat) (c:Array Value) (t:TypeId) (fr:Nat × Nat),w.heap[k]?=some (.cells c t fr)→t≠117→k ∉ S→w'.heap[k]?=some (.cells c t fr)
theorem Wx.trans{base:Nat}{S}{a b c}(h:Wx base S a b)(k:Wx base S b c):Wx base S a c:=
 ⟨k.os.trans h.os,k.tape.trans h.tape,k.output.trans h.output,lT h.size k.size,λq d f=>(k.low q d f).trans (h.low q d f),λq c t fr e d f=>k.oth q c t fr (h.oth q c t fr e d f) d f⟩
theorem Wx.ofKp{base:Nat}{S}{a b}(h:Kp S a b)(g:base<=a.heap.size):Wx base S a b:=
 ⟨h.os,h.tape,h.output,h.size,λk f d=>h.block k oM d,λk c t fr e f d=>h.heap e d⟩
theorem Wx.of{base A:Nat}{S}{a b}(h:Wr base A a b)(g:A∈S):Wx base S a b:=
 ⟨h.os,h.tape,h.output,h.size,λk d f=>h.low k d (λe=>f (e ▸ g)),λk c t fr e d f=>h.oth k c t fr e d (λe=>f (e ▸ g))⟩
theorem Wx.tail{base:Nat}{a w w'}{S T}(h:Wx base S a w)(hK:Kp T w w')(g:∀ k∈T,a.heap.size<=k)(j:base<=a.heap.size):Wx base S a w':=
 ⟨hK.os.trans h.os,hK.tape.trans h.tape,hK.output.trans h.output,lT h.size hK.size,λk b d=>(hK.block k (by have:=h.size;omega) (λf=>by have:=g k f;omega)).trans (h.low k b d),λk c t i e b d=>hK.heap (h.oth k c t i e b d) (λf=>by have:=g k f;have:=ζ e;omega)⟩
def qH5(fr:List Nat):List Value:=fr.map (fun (b:Nat)=>Value.int .i64 (b:Int))
theorem kD0(F b:Nat)(fr)(v)(w)(d:w.heap[F]?=some (.cells #[v] 24))(r:Slc w 3 1 v (b::fr).length (qH5 (b::fr)))(K:fr.length<=100000):
  Calls prog 175 #[.pointer (some ⟨F,0,none⟩)] w λe c=>e=.returned (.int .i64 b)/\∃ v',c.heap[F]?=some (.cells #[v'] 24)/\Slc c 3 1 v' fr.length (qH5 fr)/\Kp [F] w c:=by
 rcases r.val with⟨y,_⟩|⟨g,a,cap,cur,t,rfl,I,z,f,l⟩
 .simp at y
 have c0:=ϻ d 0;have H:=φ d 0;have J:=ζ d;have G:w.cell? ⟨g,a,none⟩=some (ϊ (b:Int)):=by
  rw[ξ f];exact l 0 _ (by simp[qH5])
 have B:g≠F:=by intro e;subst e;rw[d] at f;simp at f
 obtain⟨m,i⟩:=eX ((b::fr).length);rw[<-i] at z c0;have L:(0:Int)<(m:Int):=oM
 have M:¬(m:Int)<1:=oM
 have N:(1:Int)<=(m:Int):=oM
 have k:Hid (m=fr.length+1):=by show _=_;rw[i];simp
 have n:Hid (Ϙ w F (.cells #[.slice (some ⟨g,a,none⟩) m cap] 24)):=by rw[i];exact d
 have p:=zh (n2 f l);have C:g ∉ [F]:=by simpa using B
 have q:Hid (∀ o:Nat,(o=a+1\/fr=[])->∀ c,Kp [F] w c->Slc c 3 1 (.slice (some ⟨g,o,none⟩) (m-1) (cap-1)) fr.length (qH5 fr)):=by
  intro o D c hK;have s:m-1=fr.length:=by have:=k.out;omega
  rw[s];refine⟨by simp[qH5],?_⟩
  cases fr with
  | nil=>exact Or.inl ⟨rfl,_,_,rfl,sM⟩
  | cons x fr=>
   rcases D with rfl|h
   .refine Or.inr ⟨g,a+1,cap-1,cur,t,rfl,sM,by have:=k.out;simp at this |-;omega,hK.heap p.1 C,λj u E=>?_⟩;have h:=p.out.2 (j+1) u (by simpa [qH5] using E);rw[show a+1+j=a+(j+1) from by omega];exact h
   .cases h
 clear d r i f l;go_enter func175,ntmps175;go_wp2
 .go_ret;have hK:Kp [F] w (w.setCell ⟨F,0,none⟩ (.slice (some ⟨g,a,none⟩) (m-1) 0)):=kF.sc _;have A:cap=1:=by first | assumption | omega
  have h:=q.out a (Or.inr (List.eq_nil_of_length_eq_zero (by have:=k.out;omega))) _ hK;rw[A] at h;exact⟨rfl,_,μ n 0 _,h,hK⟩
 .go_ret;have hK:Kp [F] w (w.setCell ⟨F,0,none⟩ (.slice (some ⟨g,a+1,none⟩) (m-1) (cap-1))):=kF.sc _;exact⟨rfl,_,μ n 0 _,q (a+1) (Or.inl rfl) _ hK,hK⟩
variable {κ:Nat}
theorem qY0(w)(a b c):∃ d,d=((w.alloc a).alloc b).alloc c/\d.heap[w.heap.size]?=some a/\d.heap[w.heap.size+1]?=some b/\d.heap[w.heap.size+1+1]?=some c/\Kp [] w d/\d.heap.size=w.heap.size+3:=
 ⟨_,rfl,ν _ (ν _ (υ _ _)),ν _ (by simpa using υ (w.alloc a) b),by simpa using υ ((w.alloc a).alloc b) c,((kF.alloc _).alloc _).alloc _,sM⟩
theorem zY4(args)(W):Sem.run prog (callFunc 175 args) W=.ok (.enter 175 args) W:=by
 simp[go_sem,func175]
structure Ly(κ:Nat)(wn:Int)(V A N C base F:Nat)(ws:List (Nat × List UInt8))(fr:List Nat)(w:World):Prop where
 hV:w.heap[V]?=some (qE4 A N)
 hA:∃ v calls,w.heap[A]?=some (qA8 κ N C v calls (nk wn ws.length))∧w.ownsRow base 117 129 v ws.length (ws.flatMap wcs)
 hF:∃ vf,w.heap[F]?=some (.cells #[vf] 24)∧Slc w 3 1 vf fr.length (qH5 fr)
 low:base≤w.heap.size
theorem Ly.keep{a:Int}{V A N C base F:Nat}{ws}{fr}{w w'}(h:Ly κ a V A N C base F ws fr w)(hK:Kp [] w w'):Ly κ a V A N C base F ws fr w':=by
 obtain⟨v,b,c,d⟩:=h.hA;obtain⟨g,e,f⟩:=h.hF;exact⟨hK.hp h.hV,⟨v,b,hK.hp c,qJ2 d hK (Apt.nil _ _)⟩,⟨g,hK.hp e,f.keep0 hK⟩,lT h.low hK.size⟩
theorem Ly.turn{e:Int}{V A N C base F:Nat}{ws}{fr}{w w'}{S}(h:Ly κ e V A N C base F ws fr w)(hK:Kp S w w')(a:Apt w S [263,114,117,24,3]):Ly κ e V A N C base F ws fr w':=by
 obtain⟨v,f,c,g⟩:=h.hA;obtain⟨j,d,i⟩:=h.hF;exact⟨hK.heap h.hV (λb=>a _ b _ _ _ h.hV dC),⟨v,f,hK.heap c (λb=>a _ b _ _ _ c dC),qJ2 g hK (a.sub dC)⟩,⟨j,hK.heap d (λb=>a _ b _ _ _ d dC),i.keep hK (a.sub dC)⟩,lT h.low hK.size⟩
theorem Ly.apt{g:Int}{V A N C base F:Nat}{ws}{fr}{w}(h:Ly κ g V A N C base F ws fr w):Apt w [A,F] qF5:=λq a c t f e=>by
 obtain⟨v,i,b,j⟩:=h.hA;obtain⟨l,d,k⟩:=h.hF;rcases List.mem_cons.1 a with rfl|a
 .rw[b] at e;cases e;decide
 .rw[mS a,d] at e;cases e;decide
theorem Slc.wx{base:Nat}{S}{w w'}{T}{sz:Nat}{v}{n:Nat}{cs:List Value}(h:Slc w T sz v n cs)(k:Wx base S w w')(j:T≠117)(i:Apt w S [T]):Slc w' T sz v n cs:=by
 refine⟨h.len,?_⟩;rcases h.val with h|⟨g,m,cap,cur,b,c,d,e,a,f⟩
 .exact .inl h
 .exact .inr ⟨g,m,cap,cur,b,c,d,e,k.oth _ _ _ _ a j (λl=>i g l _ _ _ a sM),f⟩
theorem RN.wx{O:qE5}{base:Nat}{S}{w w'}(c:Wx base S w w')(b:Apt w S qF5):∀ (n:Nat) (q:Nat) (t),RN O n w q t->RN O n w' q t
 | 0,q,t,h=>by
  obtain⟨j,a,d⟩:=h;exact⟨j,c.oth _ _ _ _ a dC (λe=>b q e _ _ _ a dC),d.wx c dC (b.sub dC)⟩
 | n+1,q,t,h=>by
  obtain⟨i,a,g,d,f⟩:=h;exact⟨i,c.oth _ _ _ _ a dC (λe=>b q e _ _ _ a dC),g,d.wx c dC (b.sub dC),f.mono λx y hr=>hr.mono (λq hq=>RN.wx c b n q _ hq) (λ_ _ h=>h)⟩
theorem Ly.next{k:Int}{V A N C base F b:Nat}{ws}{a}{w}(h:Ly κ k V A N C base F ws (b::a) w)(r:a.length<=100000):
  Calls prog 175 #[.pointer (some ⟨F,0,none⟩)] w λe g=>e=.returned (.int .i64 b)/\Ly κ k V A N C base F ws a g/\Wx base [A,F] w g:=by
 obtain⟨v,l,i,m⟩:=h.hA;obtain⟨x,j,n⟩:=h.hF;refine (kD0 F b a x w j n r).mono ?_;rintro e g ⟨rfl,u,o,p,hK⟩;have d:Apt w [F] [263,114,117]:=λq s c t a e=>by
  rw[mS s,j] at e;cases e;decide
 exact⟨rfl,⟨hK.heap h.hV (λf=>d _ f _ _ _ h.hV dC),⟨v,l,hK.heap i (λf=>d _ f _ _ _ i dC),qJ2 m hK (d.sub dC)⟩,⟨u,o,p⟩,lT h.low hK.size⟩,Wx.ofKp (hK.mono sM) h.low⟩
theorem Ly.lay{f:Int}{V A N C base F i:Nat}{ws}{fr}{w}(h:Ly κ f V A N C base F ws fr w)(l:V≠A)(K:ws.length<=100000)(B:i<N)(y:N<=1000)
  (q:Nat) (a:Int) (vp vl) (ps) (hs) (H:w.heap[q]?=some (ι a vp vl)) (D:0<=a) (E:a<256)
  (J:Slc w 185 2 vp ps.length (qA3 ps)) (I:Slc w 87 4 vl hs.length (qA7 hs)) (G:2+meas ρ ps+meas qA0 hs<=128) (z:ps.length+hs.length<=255)
  (M:∀ p∈ps,qC6 p) (L:∀ p∈hs,p.key.size<=8/\0<=p.b/\p.b<=1000000/\0<=p.s):
  Calls prog 240 #[.pointer (some ⟨q,0,none⟩),.pointer (some ⟨V,0,none⟩),.int .i64 i] w λe d=>e=.returned (.agg #[.int .i64 i,.int .u64 (fnv (qA5 a ps hs))])/\
   Ly κ f V A N C base F (ws++[(i,toB (qA5 a ps hs))]) fr d/\Wx base [A,F] w d:=by
 obtain⟨v,n,b,r⟩:=h.hA;obtain⟨U,j,k⟩:=h.hF;refine (kD1 V A N C base v ws n (nk f ws.length) i q a vp vl ps hs w H D E J I G z M L h.hV b r K h.low B y l).mono ?_;rintro e d ⟨rfl,T,s,t,c⟩;have x:F≠A:=by intro e;subst e;rw[j] at b;simp[qA8] at b
 refine⟨rfl,⟨c.oth _ _ _ _ h.hV dC l,⟨T,_,by rw[lA];exact t,s⟩,⟨U,c.oth _ _ _ _ j dC x,k.len,?_⟩,lT h.low c.size⟩,Wx.of c sM⟩;rcases k.val with u|⟨g,S,cap,cur,o,O,P,Q,m,R⟩
 .exact Or.inl u
 .exact Or.inr ⟨g,S,cap,cur,o,O,P,Q,c.oth _ _ _ _ m dC (by intro e;subst e;rw[m] at b;simp[qA8] at b),R⟩
variable {κ:Nat}
theorem zO8(V:Nat)(r h)(nf)(w)(c:h.p=none):
  Calls prog 174 #[τ V r,qC0 h,nf] w λe g=>e=.returned (qC0 h)/\Kp [] w g:=by
 have d:h.ptr=none:=by simp[HL.ptr,c]
 rw[τ,qC0,d];go_enter func174,ntmps174;go_wp2;obtain⟨i,f,_,_,b,a,_⟩:=qY0 w (.cells (ϟ V r) 89) (.cells #[.string h.key,ϊ h.b,.int .u64 h.s,.pointer none] 87) (.cells #[.string h.key,ϊ h.b,.int .u64 h.s,.pointer none] 87);rw[<-f];exact bodyPost_ret (results_cell_row results174 _ _ (w.heap.size+1+1) 87 #[.string h.key,ϊ h.b,.int .u64 h.s,.pointer none] (0,0) _ rfl b underlying87 rfl kR) rfl ⟨rfl,a⟩
theorem jX5(wn:Int)(V A N C base F:Nat)(ws:List (Nat × List UInt8))(J:List Nat)(b:Nat)(r h:HL)(q:Nat)(O:qE5)(L:Lnk (Tn 0))(w:World)(hy:Ly κ wn V A N C base F ws (b::J) w)(bd:V≠A)(bb:N<=1000)(hb:b<N)(bi:ws.length<=100000)(bf:J.length<=100000)(hp:h.p=some q)(l:RN O 0 w q L.sub)
  (hz:∀ p∈prs L.sub,qC6 p) (hm:2+meas ρ (prs L.sub)<=128) (hn:(prs L.sub).length<=126):
  Calls prog 174 #[τ V r,qC0 h,.func (.func 175) #[] #[.pointer (some ⟨F,0,none⟩)]] w λe w'=>e=.returned (qC0 ⟨h.key,(b:Int),fnv (qA5 0 (prs L.sub) []),none⟩)/\
   Ly κ wn V A N C base F (ws++[(b,toB (qA5 0 (prs L.sub) []))]) J w'/\Wx base [A,F] w w':=by
 obtain⟨vp,l,R⟩:=l;obtain⟨m,n,rfl⟩:=qO8 R;obtain⟨o,Q⟩:=eX ((prs L.sub).length);obtain⟨g,ab⟩:∃ g:Int,g=0:=⟨_,rfl⟩;obtain⟨vl,ad⟩:=eX (Value.slice none 0 0);rw[<-ab,<-ad,<-Q] at l;rw[<-Q] at R;have s:=zh (n3 Q ab ad);have a6:=zh R;clear Q ab ad R;have HQ:=zh l;have bl:=ζ l;have y:=zh hy;have av:h.ptr=some ⟨q,0,none⟩:=by simp[HL.ptr,hp]
 rw[τ,qC0,av];clear l hy hp av;go_enter func174,ntmps174;go_wp2_with fail;obtain⟨I,ae,ao,aj,aa,Z,ac⟩:=qY0 w (.cells (ϟ V r) 89) (.cells #[.string h.key,ϊ h.b,.int .u64 h.s,ϖ q] 87) (.cells qK7 87);unfold qK7 at aa ae;rw[<-ae];clear ae;have f:I.drew.heap[w.heap.size+1]?=some (.cells #[.string h.key,ϊ h.b,.int .u64 h.s,ϖ q] 87)/\Ϙ I.drew q (ι g (.slice m o n) vl):=⟨aj,Z.hp HQ⟩;refine wp_region_held_drew (S:=λW=>W.heap[w.heap.size+1]?=some (.cells #[.string h.key,ϊ h.b,.int .u64 h.s,ϖ q] 87)/\Ϙ W q (ι g (.slice m o n) vl)) kR f (λ_=>?_);refine zU 0 (.pointer (some ⟨w.heap.size+1,3,none⟩)) f ?_;refine zV 1 (ϖ q) rfl (λW d=>by have a:=ϻ d.1 3;clear d;go_simp) f ?_;refine zV 2 (ϖ q) rfl (λW d=>by have c:=ζ d.2;clear d;go_simp) f ?_;refine zP 3 q 0 f ?_;refine zV 4 (ϊ g) rfl (λW d=>by have a:=ξ d.2 0;simp only[ι,zG,zH,zI] at a;clear d;go_simp) f ?_;refine zU 5 (.pointer (some ⟨w.heap.size+1,3,none⟩)) f ?_;refine zV 6 (ϖ q) rfl (λW d=>by have a:=ϻ d.1 3;clear d;go_simp) f ?_;refine zV 7 (ϖ q) rfl (λW d=>by have c:=ζ d.2;clear d;go_simp) f ?_;refine zP 8 q 1 f ?_;refine zV 9 (.slice m o n) rfl (λW d=>by have a:=ξ d.2 1;simp only[ι,zG,zH,zI] at a;clear d;go_simp) f ?_;refine zU 10 (.agg #[ϊ g,.slice m o n,.slice none 0 0]) f ?_;refine zq 11 λK hK=>?_;go_simp;obtain⟨w1,af,E,B⟩:∃ w1,w1=(I.alloc (.cells #[ϊ 0,.slice none 0 0,.slice none 0 0] 213)).drew/\w1.heap[w.heap.size+3]?=some (.cells #[ϊ 0,.slice none 0 0,.slice none 0 0] 213)/\Kp [] I w1:=⟨_,rfl,by rw[<-ac];exact υ I _,(kF.alloc _).drew⟩;rw[<-af];have bg:w1.heap.size=w.heap.size+4:=by rw[af];simp[ac]
 clear af;refine hK.out _ _ ⟨B.hp f.1,B.hp f.2⟩ (λ_=>?_)
 try simp only[zZ]
 refine zq 12 λK hK=>?_;have z0:=ξ E;have X:=φ E;have ba:=ζ E;have ag:=zh E;clear E;go_simp;obtain⟨i,ax,ak,M⟩:∃ i,i=((w1.setCell ⟨w.heap.size+3,0,none⟩ (ϊ g)).setCell ⟨w.heap.size+3,1,none⟩ (.slice m o n)).setCell ⟨w.heap.size+3,2,none⟩ (.slice none 0 0)/\i.heap[w.heap.size+3]?=some (ι g (.slice m o n) (.slice none 0 0))/\Kp [w.heap.size+3] w1 i:=
  ⟨_,rfl,μ (μ (μ ag 0 _) 1 _) 2 _,((kF.sc _).sc _).sc _⟩
 rw[<-ax];clear ax z0 X;have ai:=(Z.tr B).tr M;have z:=B.trans M sO;have x:=And.intro (z.hp f.1) (z.hp f.2);refine hK.out _ _ x (λ_=>?_);refine zd ?_
 try simp only[zZ]
 have bn:w.heap.size+4<=i.heap.size:=by have:=M.size;omega
 have ap:=z.hp ao;have al:=z.hp aa;have l3:=ξ x.1 3;have q2:=ξ x.2 2;simp only[ι,zG,zH,zI] at l3 q2;have a1:=zh x.1;have a7:=zh ap;have a4:=zh al;have a2:=zh ak;have T:=zh ai;have bm:=ζ x.2;clear f x ap al ak ai z M B Z ao aj aa ag ba bg ac;rw[s.out.2.2] at q2;have bj:A<w.heap.size:=by obtain⟨v,c1,Y,_⟩:=y.out.hA;exact ζ Y
 have bk:F<w.heap.size:=by obtain⟨vf,Y,_⟩:=y.out.hF;exact ζ Y
 go_wp2_with fail;refine wp_loop_rounds 1 ?_;rw[rounds_succ];go_wp2_with fail;have U:=zh (y.keep T);have au:=s.out.1;have a3:=zh au;clear au;have j:i.drew.heap[w.heap.size+1]?=some (.cells #[.string h.key,ϊ h.b,.int .u64 h.s,ϖ q] 87)/\Ϙ i.drew w.heap.size (.cells (ϟ V r) 89):=⟨a1,a7⟩;refine wp_region_held_drew (S:=λW=>W.heap[w.heap.size+1]?=some (.cells #[.string h.key,ϊ h.b,.int .u64 h.s,ϖ q] 87)/\Ϙ W w.heap.size (.cells (ϟ V r) 89)) kR j (λ_=>?_);refine zU 0 (ϖ (w.heap.size+1)) j ?_;refine zV 1 (.string h.key) rfl (λW d=>by have a:=ϻ d.1 0;clear d;go_simp) j ?_;refine zP 2 w.heap.size 0 j ?_;refine zV 3 (ϖ V) rfl (λW d=>by have a:=ϻ d.2 0;clear d;go_simp) j ?_;refine zU 4 (.func (.func 175) #[] #[ϖ F]) j ?_;refine zq 5 λK hK=>?_;have be:=zY4;go_simp;refine ((U.keep ((Kp.refl _ i).drew)).next bf).mono ?_;rintro e w3 ⟨rfl,az,k⟩;have P:=And.intro (k.oth _ _ _ _ j.1 dC sO) (k.oth _ _ _ _ j.2 dC sO);have am:=k.oth _ _ _ _ a4 dC sO;have aw:=k.oth _ _ _ _ a2 dC sO;have bo:=k.size;have bh:=((a6.keep0 T).keep0 ((Kp.refl _ i).drew)).wx k dC ((U.keep ((Kp.refl _ i).drew)).apt.sub dC);refine hK.out _ _ P (λ_=>?_);clear hK K be
 try simp only[zZ]
 refine zq 6 λK hK=>?_;go_simp;refine (az.lay bd bi hb bb (w.heap.size+3) g (.slice m o n) (.slice none 0 0) (prs L.sub) [] aw (by have:=s.out;omega) (by have:=s.out;omega) (by have h:=bh;rw[a3.out] at h |-;exact h) ⟨rfl,Or.inl ⟨rfl,none,0,rfl,λ_=>rfl⟩⟩ (by simpa [qD6] using hm) sO hz sM).mono ?_;rintro e w4 ⟨rfl,a0,H⟩;have G:=And.intro (H.oth _ _ _ _ P.1 dC sO) (H.oth _ _ _ _ P.2 dC sO);have u:=H.oth _ _ _ _ am dC sO;refine zk hK G ?_
 refine zU 7 (.agg #[.string h.key,ϊ b,.int .u64 (fnv (qA5 g (prs L.sub) [])),.pointer none]) G ?_;refine zq 8 λK hK=>?_;have z0:=ξ u;have X:=φ u;have bc:=ζ u;have ar:=qT8 (.string h.key) (ϊ (b:Int)) (.int .u64 (fnv (qA5 g (prs L.sub) []))) (.pointer none) u;have ah:=zh u;clear u;go_simp;obtain⟨w5,ay,an,D⟩:=gE ar;rw[<-ay];clear ay ar z0 X;refine hK.out _ _ ⟨D.hp G.1,D.ho G.2⟩ (λ_=>?_);refine zd ?_
 try simp only[zZ]
 have aq:Apt w4 [w.heap.size+1+1] [263,114,117,24,3]:=λq l c t J e=>by rw[mS l,ah.out] at e;cases e;decide
 have a9:=zh (a0.turn D aq);have a8:=zh (((Wx.ofKp (T.mono sM) y.low).trans (((Wx.ofKp (Kp.mono (S:=[]) ((Kp.refl _ i).drew) sM) U.low).trans k).trans H)).tail D sO y.low);have a5:=zh an;clear j P G am aw az k a0 H an D aq ah bc;go_wp2_with fail;exact bodyPost_ret (results_cell_row results174 _ _ (w.heap.size+1+1) 87 #[.string h.key,ϊ (b:Int),.int .u64 (fnv (qA5 g (prs L.sub) [])),.pointer none] (0,0) _ rfl a5 underlying87 rfl kR) rfl ⟨by simp only[qC0,HL.ptr,s.out.2.1,Option.map_none],by have h:=a9.out;rw[s.out.2.1] at h;exact h,a8⟩
variable {κ:Nat}
def OkL:(n:Nat)→Lnk (Tn n)→Prop
 | 0,l=>l.key.size≤8∧(l.ref=none→(∀ p∈prs l.sub,qC6 p)∧2+meas ρ (prs l.sub)≤128∧(prs l.sub).length≤126)
 | n+1,l=>l.key.size≤8∧(l.ref=none→n+1<256∧(∀ m∈η l.sub,OkL n m)∧2+meas qA2 (η l.sub)≤128∧(η l.sub).length≤126)
def qR5(F:Nat):Value:=.func (.func 175) #[] #[.pointer (some ⟨F,0,none⟩)]
def qX8(κ:Nat)(wn:Int)(V A N C base F:Nat)(O:qE5)(n:Nat):Prop:=∀ (h r:HL) (L:Lnk (Tn n)) (fr:List Nat) (ws:List (Nat × List UInt8)) (w:World),Ly κ wn V A N C base F ws fr w→RL O n w h L→OkL n L→news n L≤fr.length→(∀ b∈fr,b<N)→ws.length+fr.length≤100000→
 Calls prog 174 #[τ V r,qC0 h,qR5 F] w fun e w'=>e=.returned (qC0 (lhl (ψ n L fr).1))∧Ly κ wn V A N C base F (ws++(ψ n L fr).2.1) (ψ n L fr).2.2 w'∧Wx base [A,F] w w'
theorem zQ8{X:Type}{N:Nat->X->Prop}{O:Nat->Int->X->Prop}{h}{l:Lnk X}(g:RLof N O h l)(f:l.ref.isSome):h.p=none/\h=lhl l:=by
 obtain⟨d,e⟩:=g
 cases hx:l.ref with
 | none=>rw[hx] at f;cases f
 | some x=>
  rw[hx] at e;obtain⟨b,c,a,_⟩:=e;refine⟨a,?_⟩;cases h;simp only at d b c a;subst d b c a;simp[lhl,hx]
theorem zP8{X:Type}{N:Nat->X->Prop}{O:Nat->Int->X->Prop}{h}{l:Lnk X}(f:RLof N O h l)(e:l.ref=none):h.key=l.key/\∃ q,h.p=some q/\N q l.sub:=by
 obtain⟨d,a⟩:=f;rw[e] at a;obtain⟨_,_,q,b,c⟩:=a;exact⟨d,q,b,c⟩
theorem jX8(k:Int)(V A N C base F:Nat)(O:qE5)(p:V≠A)(o:N<=1000):qX8 κ k V A N C base F O 0:=by
 intro h r L a D w d i y f t v
 cases hx:L.ref with
 | some x=>
  have j:L.ref.isSome:=by rw[hx];rfl
  obtain⟨c,s⟩:=zQ8 i j;have e:ψ 0 L a=(L,[],a):=by simp only[ψ,if_pos j]
  rw[e];refine (zO8 V r h (qR5 F) w c).mono ?_;rintro e B ⟨rfl,hK⟩;exact⟨by rw[<-s],by simpa using d.keep hK,Wx.ofKp (hK.mono sM) d.low⟩
 | none=>
  obtain⟨u,q,c,z⟩:=zP8 i hx;have g:¬L.ref.isSome=true:=by rw[hx];simp
  have l:news 0 L=1:=by simp only[news,if_neg g]
  cases a with
  | nil=>rw[l] at f;simp at f
  | cons b a=>
   obtain⟨E,G,H⟩:=y.2 hx;have e:ψ 0 L (b::a)=(⟨L.key,some (b,fnv (qA5 0 (prs L.sub) [])),L.sub⟩,[(b,toB (qA5 0 (prs L.sub) []))],a):=by simp only[ψ,if_neg g,List.headD_cons,List.tail_cons]
   rw[e];refine (jX5 k V A N C base F D a b r h q O L w d p o (t b sM) oM (by simp at v;omega) c z E G H).mono ?_;rintro e B ⟨rfl,m,n⟩;exact⟨by simp only[lhl,u,Option.getD_some],m,n⟩
open Go.Maps (Keyed)
theorem kF7{k:Option Int}{e:Ending}(h:e=qB5 k):(e=.returned (.tuple #[])/\k=none)\/∃ c,e=.panicked c:=by
 cases k with
 | none=>exact .inl ⟨h,rfl⟩
 | some k=>exact .inr ⟨_,h⟩
theorem zY1(args)(W):Sem.run prog (callFunc 68 args) W=.ok (.enter 68 args) W:=by
 simp[go_sem,func68]
theorem zA8{w:World}{a b:Nat}{c d:Array Value}{t u:TypeId}{g i:Nat × Nat}(j:w.heap[a]?=some (.cells c t g))(f:w.heap[b]?=some (.cells d u i))(h:t≠u):a≠b:=λe=>by
 subst e;rw[j] at f;cases f;exact h rfl
theorem jG9(g x n V:Nat)(t)(s)(D)(R:Option Int->World->World->Prop)(w)(f:w.heap[g]?=some (.cells #[.pointer (some ⟨x,0,none⟩)] 32))(a:w.heap[x]?=some (qA1 t))(l:w.heap[t.St]?=some (θ 1 s))(C:RM w s.V s.M n D)(h0:0<=t.nr)(h1:t.nr<=1000000000)(E:s.M≠t.St)(M:x≠t.St)(L:x≠s.M)(F:g≠s.M)(ae:s.M<w.heap.size)(ab:t.on=some ⟨V,0,none⟩)(ac:t.wrt=true)
  (I:∀ W:World,Kp [t.St,x,s.M] w W->W.heap[x]?=some (qA1 t.ended)->W.heap[t.St]?=some (θ 1 (s.left t.nr))->RM W s.V s.M n (D.del (χ t.nr))->Calls prog 70 #[.pointer (some ⟨t.St,0,none⟩),τ V t.h] W λe y=>∃ k,e=qB5 k/\R k W y):
  Calls prog 68 #[.pointer (some ⟨g,0,none⟩)] w λe y=>∃ k,e=qB5 k/\∃ W,Kp [t.St,x,s.M] w W/\W.heap[x]?=some (qA1 t.ended)/\W.heap[t.St]?=some (θ 1 (s.left t.nr))/\RM W s.V s.M n (D.del (χ t.nr))/\R k W y:=by
 have ak:=ζ a;have ah:=ζ f;have af:=ζ l;have H:=zA8 f a dC;have G:=zA8 f l dC;have N:=ϻ f 0;have z:=ξ a 4;have P:=ξ a 5;have Q:=ξ a 6;have S:=ξ a 7;have T:=ξ a 8;simp only[qA1,zG,zH,zI] at z P Q S T;rw[ab] at z;have HX:=zh a;have HT:=zh f;have Z:=zh l;have U:=zh C;have X:=zh (n6 E M L F H G);have A:=zh I;clear a f l C E M L F H G I;go_enter func68,ntmps68;go_wp2_with fail;obtain⟨w0,K,aa,i,ai⟩:=alB w (.cells (ϟ V t.h) 89);rw[<-K];clear K N z P Q S T;obtain⟨n1,n2,n3,n4,n5,n6⟩:=X.out;refine (qV2 x n t s D w0 (i.hp HX) (i.hp Z) (U.kp i sM) h0 h1 n1 n2 n3).mono ?_;rintro e w1 ⟨rfl,d,u,q,p⟩;have j:=(i.mono sM).trans p (λ_ h _=>h);have m:=j.heap HT (by simp;exact⟨n6,n5,n4⟩);have o:=p.ho aa;have ag:=ζ m;have aj:=ζ d;have ad:=ζ o;have N:=ϻ m 0;have x0:=ξ d 0;have O:=ξ d 2;simp only[qA1,Tx.ended,zG,zH,zI] at x0 O;rw[ac] at O;have B:=zh (A w1.drew j.drew d u (q.kp ((Kp.refl [] w1).drew) sM));have c:Hid (Kp [t.St,x,s.M] w w1.drew/\Ϙ w1.drew x (qA1 t.ended)/\Ϙ w1.drew t.St (θ 1 (s.left t.nr))/\RM w1.drew s.V s.M n (D.del (χ t.nr))):=⟨j.drew,d,u,q.kp ((Kp.refl [] w1).drew) sM⟩;have v:Ϙ w1.drew g (.cells #[ϖ x] 32)/\Ϙ w1.drew x (qA1 t.ended)/\Ϙ w1.drew w.heap.size (.cells (ϟ V t.h) 89):=⟨m,d,o⟩;clear A j u q p m d o;go_wp2_with fail;have b:=ξ v.2.2;have hb:=v.2.2;rw[τ] at B;clear v
 go_region_with (go_at_call 70;go_must (refine (show Calls _ _ _ _ _ from B).mono ?_);rintro e w2 ⟨k,J,r⟩;rcases kF7 J with⟨rfl,rfl⟩ | ⟨cc,rfl⟩;rotate_left;(go_wp2;exact⟨rfl,k,J,w1.drew,c.1,c.2.1,c.2.2.1,c.2.2.2,r⟩))
 all_goals
  have Y:=hid r;clear r b hb;go_wp2
  go_end0
  exact⟨none,rfl,w1.drew,c.1,c.2.1,c.2.2.1,c.2.2.2,Y⟩
theorem xP6(x n V:Nat)(t)(s)(D)(X)(R:Option Int->Sto->World->World->Prop)(w)(u:w.heap[x]?=some (qA1 t))(T:t.over=false)(F:w.heap[t.St]?=some (θ 0 s))(Y:s.po=false)(P:RM w s.V s.M n D)(M:0<=t.nr)(N:t.nr<=1000000000)(E:s.M≠t.St)(y:x≠t.St)(aa:x≠s.M)(ab:s.M<w.heap.size)(U:t.on=some ⟨V,0,none⟩)(Z:t.wrt=true)(G:∀ i∈X,i<w.heap.size)
  (H:∀ W:World,Kp [t.St,x,s.M] w W->W.heap[x]?=some (qA1 t.ended)->W.heap[t.St]?=some (θ 1 (s.left t.nr))->RM W s.V s.M n (D.del (χ t.nr))->Calls prog 70 #[.pointer (some ⟨t.St,0,none⟩),τ V t.h] W λe b=>∃ k a,k≠some 8/\e=qB5 k/\R k a W b/\Kp (t.St::X) W b/\b.heap[t.St]?=some (θ 1 a)):
  Calls prog 31 #[.pointer (some ⟨x,0,none⟩)] w λe b=>∃ k a v,e=.returned v/\ErrV b v k/\b.heap[t.St]?=some (θ 0 a)/\Kp (t.St::x::s.M::X) w b/\∃ W w1 B,Kp [t.St,x,s.M] w W/\W.heap[x]?=some (qA1 t.ended)/\W.heap[t.St]?=some (θ 1 (s.left t.nr))/\RM W s.V s.M n (D.del (χ t.nr))/\R k a W w1/\Kp (t.St::X) W w1/\w1.heap[t.St]?=some (θ 1 a)/\w.heap.size<=B/\w1.heap[B]?=some (.cells #[.nilIface] 38)/\Kp [t.St,B] w1 b:=by
 have ad:=zM;have af:=ζ u;have ac:=ζ F;obtain⟨w0,I,O,p,ae⟩:=qF7 w (.cells #[ϖ x] 32);have C:=hid (xC9 x t.St 68 t s #[] #[ϖ w.heap.size] (ByteArray.mk #[67,111,109,109,105,116]) (x::s.M::X) (λk a _ w1=>∃ W,Kp [t.St,x,s.M] w W/\Ϙ W x (qA1 t.ended)/\Ϙ W t.St (θ 1 (s.left t.nr))/\RM W s.V s.M n (D.del (χ t.nr))/\R k a W w1/\Kp (t.St::X) W w1) w0 (p.hp u) T rfl (p.hp F) Y y (zY1 _) (by intro i c;simp at c;rcases c with rfl | rfl | c;omega;omega;have:=G i c;omega) (by
  intro W hK Q;have l:=(p.mono sM).trans hK (λ_ h _=>h);have S:w.heap.size≠t.St:=oM
  refine (jG9 w.heap.size x n V t s D (λk W b=>∃ a,k≠some 8/\R k a W b/\Kp (t.St::X) W b/\Ϙ b t.St (θ 1 a)) W (hK.heap O (by simp;exact S)) (l.heap u (by simp;exact y)) Q (P.kp l (by simp;exact E)) M N E y aa oM (by have:=l.size;omega) U Z ?_).mono ?_
  .intro r o d f g;exact (H r ((l.mono sM).trans o (λ_ h _=>h)) d f g).mono λe w1 ⟨k,a,z,A,q3⟩=>⟨k,A,a,z,q3⟩
  .rintro e w1 ⟨k,A,r,o,d,f,g,a,z,m,j,L⟩;refine⟨k,a,z,A,⟨r,(l.mono sM).trans o (λ_ h _=>h),d,f,g,m,j⟩,?_,L⟩;refine (o.mono ?_).trans j ?_
   .intro i c;simp at c |-;omega
   .intro i c _;simp at c |-;rcases c with h | h<;>simp[h]))
 clear H G;go_enter func31,ntmps31;go_wp2_with fail;rw[<-I];clear I;refine (show Calls _ _ _ _ _ from C).mono ?_;rintro e q ⟨k,a,v,rfl,hv,hs2,hK2,W0,w1,B,⟨W,d,f,g,e4,m,j⟩,hKW,hB1,hB2,hB3,hKB,hs1⟩;have K:=hid (show ∃ k a J,Ending.returned v=ϱ J/\ErrV q J k/\Ϙ q t.St (θ 0 a)/\Kp (t.St::x::s.M::X) w q/\∃ W w1 B,Kp [t.St,x,s.M] w W/\Ϙ W x (qA1 t.ended)/\Ϙ W t.St (θ 1 (s.left t.nr))/\RM W s.V s.M n (D.del (χ t.nr))/\R k a W w1/\Kp (t.St::X) W w1/\Ϙ w1 t.St (θ 1 a)/\w.heap.size<=B/\Ϙ w1 B (.cells #[.nilIface] 38)/\Kp [t.St,B] w1 q from
  ⟨k,a,v,rfl,hv,hs2,(p.mono sM).trans hK2 (λ_ h _=>h),W,w1,B,d,f,g,e4,m,j,hs1,oM,hB3,hKB⟩)
 clear hv hs2 hK2 d f g e4 m j hs1 hKW hB3 hKB C;go_wp2;go_ret;exact K
def nw{X:Type}(l:Lnk X):Nat:=if l.ref.isSome then 0 else 1
def Hd:(n:Nat)→Lnk (Tn n)→Prop
 | 0,_=>True
 | n+1,l=>(l.ref.isSome=true→meas (news n) (η l.sub)=0)∧∀ m∈η l.sub,Hd n m
theorem zQ5{X:Type}{l:Lnk X}(h:l.ref=none):nw l=1:=by simp[nw,h]
theorem zG2{n:Nat}(key:ByteArray)(ls:List (Lnk (Tn n))):news (n+1) ⟨key,none,ls⟩=1+meas (news n) ls:=by simp[news];rfl
theorem Hd.sum{n:Nat}{l}(h:Hd (n+1) l):meas (news n) (η l.sub)+nw l=news (n+1) l:=by
 unfold news nw;split
 .rename_i e;rw[h.1 e]
 .rw[Nat.add_comm]
theorem kD7:∀ (n:Nat) (l:Lnk (Tn n)),nw l<=news n l
 | 0,l=>lR
 | n+1,l=>by unfold news nw;split<;>omega
theorem zE8{α:Type}(f:α->Nat)(l:List α):(∃ a,qB7 f l=[a]/\a=l)\/∃ a b,qB7 f l=[a,b]/\a++b=l:=by
 unfold qB7;split
 .exact .inl ⟨l,rfl,rfl⟩
 .exact .inr ⟨_,_,rfl,tD _ _⟩
theorem qZ7(key)(ps):meas (news 0) (qD5 key ps)=(qD5 key ps).length/\(qD5 key ps).length<=2:=by
 unfold qD5;rcases zE8 ρ ps with⟨a,e,_⟩|⟨a,b,e,_⟩<;>rw[e]
 .exact⟨rfl,Nat.le_succ 1⟩
 .exact⟨rfl,Nat.le_refl 2⟩
theorem zD1{n:Nat}(key)(ls):meas (news (n+1)) (qC4 n key ls)=(qC4 n key ls).length+meas (news n) ls/\(qC4 n key ls).length<=2:=by
 unfold qC4;rcases zE8 qA2 ls with⟨a,e,c⟩|⟨a,b,e,c⟩
 .rw[e];refine⟨?_,Nat.le_succ 1⟩;show meas (news (n+1)) [⟨key,none,a⟩]=1+_;rw[qC1,qD6,zG2,c,Nat.add_zero]
 .rw[e];refine⟨?_,Nat.le_refl 2⟩;show meas (news (n+1)) [⟨key,none,a⟩,⟨_,none,b⟩]=2+_;rw[qC1,qC1,qD6,zG2,zG2,<-c,qD7];omega
theorem kS0:∀ (n:Nat) (l:Lnk (Tn n)) (p:KV),(qD8 n l p).length<=2
 | 0,l,p=>(qZ7 _ _).2
 | n+1,l,p=>by
  simp only[qD8];split
  .exact (zD1 _ _).2
  .exact zL _
theorem xR3:∀ (n:Nat) (l) (p),Hd n l->meas (news n) (qD8 n l p)+nw l<=(qD8 n l p).length+2*n+news n l
 | 0,l,p,h=>by
  have:=(qZ7 l.key (qH4 p l.sub)).1;show meas (news 0) (qD5 l.key (qH4 p l.sub))+nw l<=(qD5 l.key (qH4 p l.sub)).length+0+nw l;omega
 | n+1,l,p,h=>by
  have f:=h.sum;have e:qD8 (n+1) l p=match (η l.sub)[qA6 (η l.sub) p.k]? with
    | some m=>qC4 n l.key ((η l.sub).take (qA6 (η l.sub) p.k)++qD8 n m p++(η l.sub).drop (qA6 (η l.sub) p.k+1))
    | none=>[]:=rfl
  rw[e]
  cases hx:(η l.sub)[qA6 (η l.sub) p.k]? with
  | none=>have:=kD7 (n+1) l;simp[meas];omega
  | some m=>
   obtain⟨c,d⟩:=gS hx;have g:=xR3 n m p (h.2 m (mO hx));have i:=kS0 n m p;have a:=(zD1 l.key ((η l.sub).take (qA6 (η l.sub) p.k)++qD8 n m p++(η l.sub).drop (qA6 (η l.sub) p.k+1))).1;have b:=qN8 (news n) (η l.sub) (qA6 (η l.sub) p.k);rw[dG c,qC1,d] at b;rw[qD7,qD7] at a;simp only;omega
theorem jU8:∀ {n:Nat} {a b},Hd n a->Hd n b->meas (news n) (qG2 n a.key a.sub b.sub)+nw a+nw b<=2+news n a+news n b
 | 0,a,b,_,_=>by
  obtain⟨c,d⟩:=qZ7 a.key (List.append (α:=KV) a.sub b.sub);show meas (news 0) (qD5 a.key (List.append (α:=KV) a.sub b.sub))+nw a+nw b<=2+nw a+nw b;omega
 | n+1,a,b,ha,hb=>by
  obtain⟨c,d⟩:=zD1 a.key (η a.sub++η b.sub);have e:=ha.sum;have f:=hb.sum;rw[qD7] at c;show meas (news (n+1)) (qC4 n a.key (η a.sub++η b.sub))+nw a+nw b<=_;omega
theorem zP7(n:Nat)(ls)(i:Nat):qC2 n ls i=ls\/∃ P a b Q,ls=P++a::b::Q/\qC2 n ls i=P++qG2 n a.key a.sub b.sub++Q/\((ls[i]?=some a/\cnt n a.sub<3)\/(ls[i]?=some b/\cnt n b.sub<3)):=by
 unfold qC2
 cases hx:ls[i]? with
 | none=>exact .inl rfl
 | some x=>
  simp only;by_cases d:3<=cnt n x.sub
  .exact .inl (if_pos d)
  .rw[if_neg d]
   cases ha:ls[min i (ls.length-2)]? with
   | none=>exact .inl rfl
   | some a=>
    cases hb:ls[min i (ls.length-2)+1]? with
    | none=>exact .inl rfl
    | some b=>
     obtain⟨g,e⟩:=gS ha;obtain⟨h,f⟩:=gS hb;obtain⟨k,j⟩:=gS hx;refine .inr ⟨ls.take (min i (ls.length-2)),a,b,ls.drop (min i (ls.length-2)+2),?_,rfl,?_⟩
     .rw[<-e,<-f,<-dG h,<-dG g,tD]
     .by_cases c:min i (ls.length-2)=i
      .rw[c,hx] at ha;cases ha;exact .inl ⟨rfl,oM⟩
      .have c:min i (ls.length-2)+1=i:=oM
       rw[c,hx] at hb;cases hb;exact .inr ⟨rfl,oM⟩
theorem kA1{n:Nat}{A W B}{m}(o:∀ x∈A++W++B,Hd n x)(q:Made n m 1 W):
  meas (news n) (qC2 n (A++W++B) A.length)+W.length<=meas (news n) (A++W++B)+2:=by
 have p:W.length<=2/\∀ x,(A++W++B)[A.length]?=some x->x.ref=none/\(cnt n x.sub<3->W.length=1):=by
  rcases q with⟨a,rfl,g,d,c⟩|⟨a,b,rfl,g,d,c,r,s⟩
  .refine⟨sM,λx f=>?_⟩;rw[show (A++[a]++B)[A.length]?=some a by simp] at f;cases f;exact⟨d,λ_=>rfl⟩
  .refine⟨sM,λx f=>?_⟩;rw[show (A++[a,b]++B)[A.length]?=some a by simp] at f;cases f;exact⟨d,λh=>by omega⟩
 obtain⟨t,k⟩:=p;rcases zP7 n (A++W++B) A.length with e|⟨P,a,b,Q,g,d,c⟩
 .rw[e];omega
 .rw[d];rw[g] at o c k |-;have u:=jU8 (o a sM) (o b sM);rw[qD7,qD7,qD7,qC1,qC1];rcases c with⟨c,l⟩|⟨c,l⟩
  .obtain⟨i,j⟩:=k _ c;have:=zQ5 i;have:=j l;omega
  .obtain⟨i,j⟩:=k _ c;have:=zQ5 i;have:=j l;omega
def lf:(n:Nat)→Tn n→Nat
 | 0,_=>1
 | n+1,ls=>meas (fun l:Lnk (Tn n)=>lf n l.sub) (η ls)
def lfs(n:Nat)(ls:List (Lnk (Tn n))):Nat:=meas (fun l=>lf n l.sub) ls
theorem zX4{n:Nat}(key)(ls):lfs (n+1) (qC4 n key ls)=lfs n ls:=by
 unfold qC4;rcases zE8 qA2 ls with⟨a,e,c⟩|⟨a,b,e,c⟩
 .rw[e];show meas (λl=>lf (n+1) l.sub) [(⟨key,none,a⟩:Lnk (Tn (n+1)))]=_;rw[qC1,qD6,<-c];rfl
 .rw[e];show meas (λl=>lf (n+1) l.sub) [(⟨key,none,a⟩:Lnk (Tn (n+1))),⟨_,none,b⟩]=_;rw[qC1,qC1,qD6,<-c,lfs,qD7];rfl
theorem jU7:∀ {n:Nat} {a b:Lnk (Tn n)},lfs n (qG2 n a.key a.sub b.sub)<=lf n a.sub+lf n b.sub
 | 0,a,b=>by
  have c:=(qZ7 a.key (List.append (α:=KV) a.sub b.sub)).2;have:∀ ls:List (Lnk (Tn 0)),lfs 0 ls=ls.length:=λls=>by induction ls with
   | nil=>rfl
   | cons x r ih=>rw[lfs,qC1,<-lfs,ih];show 1+r.length=r.length+1;omega
  show lfs 0 (qD5 a.key (List.append (α:=KV) a.sub b.sub))<=1+1;rw[this];exact c
 | n+1,a,b=>by
  show lfs (n+1) (qC4 n a.key (η a.sub++η b.sub))<=_;rw[zX4,lfs,qD7];exact lR
theorem kA0(n:Nat)(ls)(i:Nat):lfs n (qC2 n ls i)<=lfs n ls:=by
 rcases zP7 n ls i with e|⟨P,a,b,Q,c,d,_⟩
 .rw[e];exact lR
 .have:=jU7 (a:=a) (b:=b);rw[d,c];simp only[lfs,qD7,qC1] at this |-;omega
theorem zX3{n:Nat}{key}{ls}(h:∀ m∈ls,Hd n m):∀ x∈qC4 n key ls,Hd (n+1) x:=by
 unfold qC4;rcases zE8 qA2 ls with⟨a,e,d⟩|⟨a,b,e,d⟩
 .rw[e];intro x c;rw[mS c];exact⟨λh=>(by cases h),λm hm=>h m (by rw[<-d];exact hm)⟩
 .rw[e];intro x c;rcases List.mem_cons.1 c with rfl|c
  .exact⟨λh=>(by cases h),λm hm=>h m (by rw[<-d];exact List.mem_append_left _ hm)⟩
  .rw[mS c];exact⟨λh=>(by cases h),λm hm=>h m (by rw[<-d];exact List.mem_append_right _ hm)⟩
theorem jU6:∀ {n:Nat} {a b:Lnk (Tn n)},Hd n a->Hd n b->∀ x∈qG2 n a.key a.sub b.sub,Hd n x
 | 0,a,b,_,_=>λ_ _=>trivial
 | n+1,a,b,ha,hb=>zX3 (ls:=η a.sub++η b.sub) λm c=>(mA c).elim (ha.2 m) (hb.2 m)
theorem jZ7{n:Nat}{ls}{i:Nat}(h:∀ x∈ls,Hd n x):∀ x∈qC2 n ls i,Hd n x:=by
 rcases zP7 n ls i with e|⟨P,a,b,Q,d,f,_⟩
 .rw[e];exact h
 .rw[f];rw[d] at h;intro x c;rcases mA c with c|c
  .rcases mA c with c|c
   .exact h x (by simp[c])
   .exact jU6 (h a sM) (h b sM) x c
  .exact h x (by simp[c])
theorem xR4:∀ (n:Nat) (l:Lnk (Tn n)) (k:ByteArray),Hd n l->∀ x∈qC3 n l k,Hd n x
 | 0,l,k,h=>λ_ _=>trivial
 | n+1,l,k,h=>by
  show ∀ x∈(match (η l.sub)[qA6 (η l.sub) k]? with
    | some m=>qC4 n l.key (qC2 n ((η l.sub).take (qA6 (η l.sub) k)++qC3 n m k++(η l.sub).drop (qA6 (η l.sub) k+1)) (qA6 (η l.sub) k))
    | none=>[]),Hd (n+1) x
  cases b:(η l.sub)[qA6 (η l.sub) k]? with
  | none=>intro x b;cases b
  | some m=>
   refine zX3 (jZ7 λx a=>?_);rcases mA a with a|a
   .rcases mA a with a|a
    .exact h.2 x (mT a)
    .exact xR4 n m k (h.2 m (mO b)) x a
   .exact h.2 x (mD a)
theorem xR5:∀ (n:Nat) (l) (k),Hd n l->Good n l.key l.sub->kl k l.key=false->l.key.size<=8->(∃ q∈cont n l.sub,q.k=k)->min n 1<cnt n l.sub->
  meas (news n) (qC3 n l k)+nw l<=(qC3 n l k).length+2*n+news n l/\lfs n (qC3 n l k)<=lf n l.sub
 | 0,l,k,ho,h,hk,hz,c,h1=>by
  have y:qC3 0 l k=qD5 l.key ((prs l.sub).take (qB0 (prs l.sub) k)++(prs l.sub).drop (qB0 (prs l.sub) k+1)):=rfl;have e:=(qZ7 l.key ((prs l.sub).take (qB0 (prs l.sub) k)++(prs l.sub).drop (qB0 (prs l.sub) k+1))).1;have p:meas ρ ((prs l.sub).take (qB0 (prs l.sub) k)++(prs l.sub).drop (qB0 (prs l.sub) k+1))<=126:=by
   have f:meas ρ (prs l.sub)<=126:=h.fits;have N:=qN8 ρ (prs l.sub) (qB0 (prs l.sub) k);have v:=qN8 ρ ((prs l.sub).drop (qB0 (prs l.sub) k)) 1;rw[List.drop_drop] at v;rw[qD7];omega
  rw[y];refine⟨by show _<=_+0+nw l;omega,?_⟩;unfold qD5 qB7;rw[if_pos p];exact lR
 | n+1,l,k,ho,h,hk,hz,c,h1=>by
  have f:1<(η l.sub).length:=by have f:min (n+1) 1<(η l.sub).length:=h1;omega
  have H:Row0 n l.key (η l.sub):=⟨h.head,λm d=>⟨(h.all m d).1,(h.all m d).2.2⟩,h.pair⟩;obtain⟨A,m,B,e,g,t,E,F⟩:=zB6 (k:=k) H (by intro e;rw[e] at f;simp at f) hk;have s:=λx a=>h.all x (by show x∈η l.sub;rw[e];exact a);have i:=λx a=>ho.2 x (by rw[e];exact a);have d:=s m sM;have G:=λb o q c=>qN6 (F b o) ((qK9 n b.key b.sub (s b (by simp[o])).1).2 q c).2;have u:∃ q∈cont n m.sub,q.k=k:=by
   obtain⟨q,c,j⟩:=c;have c:q∈(η l.sub).flatMap (λl=>cont n l.sub):=c;rw[e] at c;obtain⟨x,a,r⟩:=mF c;rcases mA a with a|a
   .exact absurd j (qI9 (E x a q r))
   .rcases List.mem_cons.1 a with rfl|a
    .exact⟨q,r,j⟩
    .exact absurd j.symm (qI9 (G x a q r))
  obtain⟨w1,P,M⟩:=qX4 n m k d.1 t d.2.2 u oM;obtain⟨O,L⟩:=xR5 n m k (i m sM) d.1 t d.2.2 u oM;have w:=λx a=>xR4 n m k (i m sM) x a;have p:=kA1 (A:=A) (B:=B) (W:=qC3 n m k) (m:=m) (λx a=>by
   rcases mA a with a|a
   .rcases mA a with a|a
    .exact i x (by simp[a])
    .exact w x a
   .exact i x (by simp[a])) M
  have K:qC3 (n+1) l k=qC4 n l.key (qC2 n (A++qC3 n m k++B) A.length):=by
   have C:(η l.sub)[qA6 (η l.sub) k]?=some m:=by rw[<-g,e];simp
   have J:(η l.sub).take (qA6 (η l.sub) k)=A:=by rw[<-g,e];simp
   have z:(η l.sub).drop (qA6 (η l.sub) k+1)=B:=by
    rw[<-g,e,show A++m::B=(A++[m])++B by simp];exact List.drop_left' sM
   show (match (η l.sub)[qA6 (η l.sub) k]? with
    | some m=>qC4 n l.key (qC2 n ((η l.sub).take (qA6 (η l.sub) k)++qC3 n m k++(η l.sub).drop (qA6 (η l.sub) k+1)) (qA6 (η l.sub) k))
    | none=>[])=_
   rw[C,J,z,g]
  have I:=ho.sum;have o:=(zD1 l.key (qC2 n (A++qC3 n m k++B) A.length)).1;have D:=kA0 n (A++qC3 n m k++B) A.length;rw[e,qD7,qC1] at I;rw[qD7,qD7] at p;rw[K,zX4];refine⟨oM,lT D ?_⟩;show _<=lfs n (η l.sub);rw[e];simp only[lfs,qD7,qC1] at L |-;omega
theorem xD1:∀ (n:Nat) (lo) (t),Good (n+1) lo t->(η t).length*3 ^ n<=lf (n+1) t
 | n,lo,t,h=>by
  have key:∀ ls:List (Lnk (Tn n)),(∀ x∈ls,3 ^ n<=lf n x.sub)->ls.length*3 ^ n<=meas (λl:Lnk (Tn n)=>lf n l.sub) ls:=by
   intro ls
   induction ls with
   | nil=>intro _;simp[meas]
   | cons a r ih=>
    intro e;have c:=ih λx b=>e x (by simp[b]);have d:=e a sM;rw[lC,Nat.succ_mul,qC1];omega
  refine key (η t) λx b=>?_;obtain⟨c,d,_⟩:=h.all x b
  cases n with
  | zero=>exact lR
  | succ n=>
   have f:=xD1 n x.key x.sub c;have g:3*3 ^ n<=(η x.sub).length*3 ^ n:=Nat.mul_le_mul_right _ d;rw[Nat.pow_succ];omega
def Root.lf:Root→Nat
 | .none=>0
 | .at n l=>YtdohpenfkdckiaaGreatDoor.lf n l.sub
def Root.lev:Root→Nat
 | .none=>0
 | .at n l=>n
def Root.hd:Root→Prop
 | .none=>True
 | .at n l=>Hd n l
theorem xM8{n:Nat}{l}(h:RGood (.at (n+1) l)):2*3 ^ n<=Root.lf (.at (n+1) l):=by
 have a:=xD1 n _ _ h.2.1;have b:2<=(η l.sub).length:=by have c:min (n+1) 1<(η l.sub).length:=h.2.2;omega
 exact lT (Nat.mul_le_mul_right _ b) a
theorem zF7{r}(h:RGood r)(d:r.lf<=1400):r.lev<=6:=by
 cases r with
 | none=>exact zL _
 | «at» n l=>
  cases n with
  | zero=>exact zL _
  | succ n=>
   have c:=xM8 h;show n+1<=6;rcases Nat.lt_or_ge n 6 with a|a
   .omega
   .have b:3 ^ 6<=3 ^ n:=Nat.pow_le_pow_right oM a;simp at b;omega
theorem jY5{r}(h:RGood r)(d:r.lf<=485):r.lev<=5:=by
 cases r with
 | none=>exact zL _
 | «at» n l=>
  cases n with
  | zero=>exact zL _
  | succ n=>
   have c:=xM8 h;show n+1<=5;rcases Nat.lt_or_ge n 5 with a|a
   .omega
   .have b:3 ^ 5<=3 ^ n:=Nat.pow_le_pow_right oM a;simp at b;omega
theorem kP9:∀ (n:Nat) (l),l.ref=none->(qN0 n l).news<=news n l/\((qN0 n l).lev=n\/(qN0 n l).news+1<=news n l)/\(qN0 n l).lev<=n/\(qN0 n l).lf<=lf n l.sub
 | 0,l,h=>by
  have e:qN0 0 l=match prs l.sub with | []=>.none | _::_=>.at 0 l:=rfl
  rw[e]
  cases prs l.sub with
  | nil=>exact⟨zL _,.inl rfl,zL _,zL _⟩
  | cons x r=>exact⟨lR,.inl rfl,lR,lR⟩
 | n+1,l,h=>by
  have e:qN0 (n+1) l=match η l.sub with | []=>.none | [m]=>.at n m | _::_::_=>.at (n+1) l:=rfl
  have a:news (n+1) l=1+meas (news n) (η l.sub):=by simp[news,h]
  have b:lf (n+1) l.sub=lfs n (η l.sub):=rfl;rw[e,a,b]
  cases hx:η l.sub with
  | nil=>exact⟨zL _,.inr (by show 0+1<=_;omega),zL _,zL _⟩
  | cons x r=>
   cases r with
   | nil=>
    rw[qC1,qD6,lfs,qC1,qD6];exact⟨by show news n x<=_;omega,.inr (by show news n x+1<=_;omega),Nat.le_succ n,lR⟩
   | cons y r=>
    refine⟨?_,.inl rfl,lR,?_⟩
    .show news (n+1) l<=_;rw[a,hx];exact lR
    .show lfs n (η l.sub)<=_;rw[hx];exact lR
theorem zT7{n:Nat}{l}{d:Nat}{W}(m:Made n l d W)(f:∀ w∈W,w.key.size<=8):
  (W.length=1/\(qE0 n W).news<=meas (news n) W/\((qE0 n W).lev=n\/(qE0 n W).news+1<=meas (news n) W)/\(qE0 n W).lev<=n/\(qE0 n W).lf<=lfs n W)\/
  (W.length=2/\(qE0 n W).news=meas (news n) W+1/\(qE0 n W).lev=n+1/\(qE0 n W).lf=lfs n W):=by
 rcases m with⟨a,rfl,h,c,i⟩|⟨a,b,rfl,h,c,i,o,p⟩
 .have j:=kP9 n a c;rw[qC1,qD6,lfs,qC1,qD6];exact .inl ⟨rfl,j⟩
 .have k:meas qA2 [a,b]<=126:=by
   have:=f a sM;have:=f b sM;simp[meas,qA2];omega
  have e:qC4 n ⟨#[]⟩ [a,b]=[⟨⟨#[]⟩,none,[a,b]⟩]:=by
   unfold qC4 qB7;rw[if_pos k];rfl
  have g:qE0 n [a,b]=.at (n+1) ⟨⟨#[]⟩,none,[a,b]⟩:=by
   show (match qC4 n ⟨#[]⟩ [a,b] with | []=>Root.none | r::_=>qN0 (n+1) r)=_;rw[e];rfl
  rw[g];refine .inr ⟨rfl,?_,rfl,rfl⟩;show news (n+1) ⟨⟨#[]⟩,none,[a,b]⟩=_;rw[zG2,Nat.add_comm]
def qL9(c:Nat)(r:Root):Prop:=r.news≤12*c+(if r.lev=6 then 1 else 0)
theorem xB2{n:Nat}{l}{d c:Nat}{W}(g:Made n l d W)(i:∀ w∈W,w.key.size<=8)(q:meas (news n) W+nw l<=W.length+2*n+news n l)(m:qL9 c (.at n l))(p:n<=6)(k:n=6->l.ref=none)(o:(qE0 n W).lev<=6):qL9 (c+1) (qE0 n W):=by
 have h:news n l<=12*c+(if n=6 then 1 else 0):=m;unfold qL9;by_cases a:n=6
 .have:=zQ5 (k a);rw[if_pos a] at h;rcases zT7 g i with⟨b,e,f,j,_⟩|⟨b,e,f,_⟩
  .split<;>omega
  .omega
 .rw[if_neg a] at h;rcases zT7 g i with⟨b,e,f,j,_⟩|⟨b,e,f,_⟩<;>split<;>omega
theorem jL9{r}{p}{c:Nat}(h:RGood r)(m:r.hd)(d:qC6 p)(i:qL9 c r)(k:r.lev<=6)(g:∀ l,r=.at 6 l->l.ref=none)(j:(r.put p).lev<=6):qL9 (c+1) (r.put p):=by
 cases r with
 | none=>
  have a:=zR8 (r:=.none) (p:=p) trivial d;have b:=qW8 a.1;have f:=zN4 p Root.none.cont;rw[a.2] at b;have s:Root.none.cont.length=0:=rfl;unfold qL9;omega
 | «at» n l=>
  obtain⟨a,b,f⟩:=h;obtain⟨w1,t,q⟩:=zB7 n l p b d (by rw[a];exact qN5 _) (by rw[a];decide) oM;exact xB2 q (λw o=>(w1.all w o).2) (xR3 n l p m) i k (λe=>by subst e;exact g l rfl) j
theorem xB1{r}{k}{c:Nat}(h:RGood r)(v:r.hd)(j:qL9 c r)(o:r.lf<=1400)(t:∀ l,r=.at 6 l->l.ref=none):qL9 (c+1) (r.del k)/\(r.del k).lf<=r.lf:=by
 have u:=zF7 h o;have b:=(xA2 (k:=k) h).1
 cases r with
 | none=>exact⟨zL _,lR⟩
 | «at» n l=>
  obtain⟨a,g,i⟩:=h;unfold Root.del at b |-;by_cases d:(cont n l.sub).any (λq=>decide (q.k=k))=true
  .simp only[d,if_true] at b |-;have p:∃ q∈cont n l.sub,q.k=k:=by simpa using d
   obtain⟨w1,A,s⟩:=qX4 n l k g (by rw[a];exact qN5 _) (by rw[a];decide) p i;obtain⟨x,z⟩:=xR5 n l k v g (by rw[a];exact qN5 _) (by rw[a];decide) p i;have m:(qE0 n (qC3 n l k)).lf<=lf n l.sub:=by
    rcases zT7 s (λw f=>(w1.all w f).2) with⟨_,_,_,_,h5⟩|⟨_,_,_,h5⟩<;>omega
   exact⟨xB2 s (λw f=>(w1.all w f).2) x j u (λe=>by subst e;exact t l rfl) (zF7 b (lT m o)),m⟩
  .simp only[d];refine⟨?_,lR⟩;have y:news n l<=12*c+(if n=6 then 1 else 0):=j;show news n l<=12*(c+1)+(if n=6 then 1 else 0);omega
end Go.Proofs.YtdohpenfkdckiaaGreatDoor
