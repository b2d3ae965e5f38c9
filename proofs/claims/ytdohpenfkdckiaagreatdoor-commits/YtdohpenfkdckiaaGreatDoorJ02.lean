import Derived.Test.YtdohpenfkdckiaaGreatDoorJ01
import Derived.Deep.RegionLaw
import Derived.Deep.RegionLawGrows
import Derived.Deep.RegionWith
import Derived.Deep.DeepMust
set_option linter.all false
set_option maxRecDepth 100000
set_option maxHeartbeats 20000000
namespace Go.Proofs.YtdohpenfkdckiaaGreatDoor
open Go.Proofs.Tryz
open Go.RowKit
variable {κ:Nat}
def qA8(κ n C:Nat)(cache:Value)(calls writes:Int):Obj:=
 .cells #[.slice (some ⟨C,0,none⟩) n κ,cache,.int .i64 calls,.int .i64 writes,.int .i64 0,.int .i64 (-1),.int .i64 0,.int .i64 0] 114
abbrev qG6(n C:Nat)(cache:Value)(calls writes:Int):Obj:=qA8 n n C cache calls writes
theorem xJ9(A n C:Nat)(cache)(a c:Int)(i:Int)(w)(h:w.heap[A]?=some (qA8 κ n C cache a c))(d:0<=i)(f:i<n):
  Calls prog 330 #[.pointer (some ⟨A,0,none⟩),.int .i64 i] w λe b=>e=.returned (.bool false)/\b=w:=by
 have c0:=ξ h 0;simp at c0;clear h;go_enter func330,ntmps330;go_wp2;go_ret;exact⟨rfl,rfl⟩
theorem xY3(A n C:Nat)(cache)(a c:Int)(w)(h:w.heap[A]?=some (qA8 κ n C cache a c)):
  Calls prog 325 #[.pointer (some ⟨A,0,none⟩)] w λe b=>e=.returned (.int .i64 n)/\b=w:=by
 have c0:=ξ h 0;simp at c0;clear h;go_enter func325,ntmps325;go_wp2;go_ret;exact⟨rfl,rfl⟩
theorem qK6(A n C:Nat)(cache)(a c:Int)(w)(h:w.heap[A]?=some (qA8 κ n C cache a c)):
  Calls prog 126 #[.pointer (some ⟨A,0,none⟩)] w λe b=>e=.returned (.int .i64 0)/\b=w:=by
 have c0:=ξ h 4;simp at c0;clear h;go_enter func126,ntmps126;go_wp2;go_ret;exact⟨rfl,rfl⟩
def allBytes(cs:Array Value):Prop:=∀ v∈cs.toList,∃ x,v=.int .u8 x
theorem allBytes.one{cs}(h:allBytes cs):∀ v∈cs.toList,v.oneCell'=true:=λv hv=>by obtain⟨x,rfl⟩:=h v hv;rfl
theorem zC6{cs}(h:allBytes cs)(o n:Nat):allBytes (qA9 cs o n):=λv a=>h v (mD (mT (by simpa [qA9] using a)))
theorem qP5{cs p}(h:cs.size=p.size):qE2 cs 0 p=p:=by
 have e:cs.toList.drop p.size=[]:=dL (by simp[h]);simp[qE2,e]
theorem Tryz.size5:(prog.info? 5).map (·.size)=some 1:=kR
variable {κ:Nat}
theorem zE9:(prog.info? 117).map (λi=>(i.zero,i.size,i.bytes))=some (some (.agg zeroCells117),129,136):=kR
theorem qX7:zeroCells117.size=129:=kR
theorem kT7:∀ v∈zeroCells117.toList,v.oneCell'=true:=by
 have h:zeroCells117.toList.all (·.oneCell')=true:=kR
 exact List.all_eq_true.1 h
theorem xD7:(prog.info? 115).map (λi=>(i.zero,i.size,i.bytes))=some (some (.agg zeroCells115),128,128):=kR
theorem xR7:∀ v∈zeroCells115.toList,v=.int .u8 0:=by
 have h:zeroCells115.toList=List.replicate 128 (.int .u8 0):=kR
 intro v hv;rw[h] at hv;exact List.eq_of_mem_replicate hv
theorem xR9:zeroCells115.size=128:=kR
theorem xJ3(m:Nat)(w)(i:m<1000)(k:Int)(g:0<=k)(f:k % 1000=m):
  Calls prog 41 #[.int .i64 k] w λe d=>e=.returned (.pointer (some ⟨w.heap.size+1,0,none⟩))/\∃ Z:Array Value,Z.size=m*128/\(∀ v∈Z.toList,v=.int .u8 0)/\
   d=(w.alloc (.cells Z 115)).alloc (qG6 m w.heap.size (.slice none 0 0) 0 0):=by
 go_enter func41,ntmps41;have h:¬k<0:=oM
 go_wp2;obtain⟨Z,b,c,a⟩:=xN8 (P:=prog) (.agg zeroCells115) (.int .u8 0) 128 128 underlying111 xD7 xR7 (by simp[Value.cells,xR9]) .i64 .i64 m oM oM w;rw[a];clear a;go_wp2;go_ret;exact⟨rfl,Z,b,c,rfl⟩
def qD2(l:List UInt8):List Value:=l.map (fun b=>.int .u8 (b.toNat:Int))
def enc(l:List UInt8):Array Value:=(qD2 l).toArray
theorem zD7(l):(qD2 l).length=l.length:=by simp[qD2]
theorem qI7(l):(enc l).size=l.length:=by simp[enc,qD2]
theorem qM1(l):allBytes (enc l):=by
 intro v a;simp[enc,qD2] at a;obtain⟨b,_,rfl⟩:=a;exact⟨_,rfl⟩
theorem jK1(a b):qD2 (a++b)=qD2 a++qD2 b:=by simp[qD2]
theorem qO7(l)(o n:Nat):qA9 (enc l) o n=enc ((l.drop o).take n):=by simp[qA9,enc,qD2,List.map_take,List.map_drop]
theorem xF0(l p)(o:Nat):qE2 (enc l) o (enc p)=enc (l.take o++p++l.drop (o+p.length)):=by
 simp[qE2,enc,qD2,List.map_take,List.map_drop]
theorem zM6(l:List UInt8)(s:ByteArray):(l.map (λb=>(b.toNat:Int))).foldl (λr n=>r.push (UInt8.ofNat n.toNat)) s=⟨(s.data.toList++l).toArray⟩:=by
 induction l generalizing s with
 | nil=>simp
 | cons b l ih=>
  rw[List.map_cons,List.foldl_cons,ih];simp[ByteArray.push]
theorem kC5(w)(k:Int)(f:k<0):
  Calls prog 41 #[.int .i64 k] w λe d=>e=.returned (.pointer (some ⟨w.heap.size+1,0,none⟩))/\∃ Z:Array Value,Z.size=0*128/\(∀ v∈Z.toList,v=.int .u8 0)/\
   d=(w.alloc (.cells Z 115)).alloc (qG6 0 w.heap.size (.slice none 0 0) 0 0):=by
 go_enter func41,ntmps41;go_wp2;obtain⟨Z,b,c,a⟩:=xN8 (P:=prog) (.agg zeroCells115) (.int .u8 0) 128 128 underlying111 xD7 xR7 (by simp[Value.cells,xR9]) .i64 .i64 0 oM oM w;simp only[Int.ofNat_zero,Int.natCast_zero] at a;rw[a];clear a;go_wp2;go_ret;exact⟨rfl,Z,b,c,rfl⟩
theorem kL3{w}{base:Nat}{v}{k:Nat}{l}(h:w.ownsRow base 5 1 v k (qD2 l)):
  Sem.run prog (convert 118 9 v) w=.ok (.string ⟨l.toArray⟩) w:=by
 obtain⟨f,c⟩:=h;rw[zD7] at f;rcases c with⟨rfl,m⟩|⟨g,cap,cur,rfl,_,d,p,_,q,j⟩
 .have:l=[]:=List.eq_nil_of_length_eq_zero oM;subst this;rw[run_convert_bytes_string w _ _ _ _ _ _ underlying118 underlying5 underlying9];rfl
 .rw[run_convert_bytes_string w _ _ _ _ _ _ underlying118 underlying5 underlying9];have i:qA9 cur 0 k=((l.map (λb=>(b.toNat:Int))).map (.int .u8)).toArray:=by
   have e:(l.map (λb=>(b.toNat:Int))).map (Value.int .u8)=qD2 l:=by simp[qD2]
   rw[e,<-j];simp[qA9]
  have a:=zB2 (P:=prog) (o:=0) (n:=k) d oM;rw[i] at a;rw[run_bytesToString w _ _ _ _ a,zM6];simp
theorem xZ1(A n C:Nat)(H S:Int)(l)(w)(h:w.heap[A]?=some (qG6 n C (.slice none 0 0) H S))(X:n<=1000)
  (i:w.heap[C]?=some (.cells (enc l) 115)) (Y:l.length=n*128):
  Calls prog 184 #[.pointer (some ⟨A,0,none⟩)] w λe R=>e=.returned (.string ⟨l.toArray⟩)/\Kp [] w R:=by
 have c0:=ξ h 0;simp at c0;have g:=ζ h;have U:=ζ i;clear h;obtain⟨D,p,y,z,B⟩:=info_parts Tryz.info5;go_enter func184,ntmps184;go_wp2_with fail;have x:=run_make (P:=prog) w 118 5 D (.int .u8 0) underlying118 p y .i64 .i64 0 ((n:Int)*128) oM oM (by rw[B];omega) oM;rw[x];clear x;rw[show (Int.toNat 0)=0 from rfl,show ((n:Int)*128).toNat=n*128 from by omega,z];obtain⟨b,o,m,K⟩:∃ b,b=w.alloc (.cells (madeCells (Value.int .u8 0).cells (n*128*1)) 5)/\Kp [] w b/\b.ownsRow w.heap.size 5 1 (.slice (some ⟨w.heap.size,0,none⟩) 0 (n*128)) 0 []:=
  ⟨_,rfl,kF.alloc _,sM,.inr ⟨w.heap.size,n*128,_,rfl,lR,υ _ _,oM,by unfold maxLen;omega,by simp[madeCells],sM⟩⟩
 rw[<-o];clear o;have G:=(m.cell (a:=⟨A,0,none⟩) g sM).trans c0;go_wp2
 go_loopw [3,17,4] (λs k _ wr=>∃ (j:Nat) (v:Value),j<=n/\k=.int .i64 j/\s=v/\wr.ownsRow w.heap.size 5 1 v (j*128) (qD2 (l.take (j*128)))/\Kp [] w wr) (λ_ k _ _=>n-(intOf k).toNat)
 case atStart=>exact⟨0,_,zL _,rfl,rfl,by simpa [qD2] using K,m⟩
 case round=>
  obtain⟨j,v,V,rfl,rfl,f,hK⟩:=hrel;have T:=(hK.cell (a:=⟨A,0,none⟩) g sM).trans c0;have J:=hK.hp i;clear G;by_cases W:j<n
  .have q:((l.drop (j*128)).take 128).length=128:=sO
   have r:∀ k u,(qD2 ((l.drop (j*128)).take 128))[k]?=some u->wr.cell? ((⟨C,j*128,none⟩:Addr).add k)=some u:=by
    intro k u c;rw[qG4,ξ J];have d:k<128:=by have:=(gS c).1;rw[zD7,q] at this;exact this
    rw[<-c,<-qW5 (cs:=enc l) (n:=128) d,qO7];simp[enc]
   have t:∀ u∈qD2 ((l.drop (j*128)).take 128),u.oneCell'=true:=λu c=>(qM1 _).one u (by simpa [enc] using c);have E:=zh r;have F:=zh t;clear r t
   go_wp2_with (at_builtin;go_must (refine wpList_append_own _ rfl _ _ 118 rfl w.heap.size 5 D (.int .u8 0) 1 1 underlying118 p y z B rfl dC _ _ _ rfl f ⟨C,j*128,none⟩ 128 128 (qD2 ((l.drop (j*128)).take 128)) rfl (by rw[zD7,q]) E F (by unfold maxLen;omega) oM hK.size ?_);intro Q w1 N M _)
   refine⟨⟨j+1,Q,oM,by go_num,rfl,?_,hK.grown M (λk d=>Or.inr (qI6 f k d))⟩,by simp[intOf];omega⟩;have I:(j+1)*128=j*128+128:=oM
   rw[I,List.take_add,jK1];exact N
  .have L:j=n:=oM
   subst L;have O:=kL3 f;rw[tL oM] at O;go_wp2;go_ret;exact⟨rfl,hK⟩
theorem jL6{P:Program}{a:Act}{w}{o:Oper}{x c:Operand}{t e}(l:o.op=.indexAddr t x c)(q:P.underlying t=some (.slice e)){size:Nat}(n:(P.info? e).map (·.size)=some size)
  (k:IntKind) (i b f d cap:Nat) (s:a.eval x=.slice (some ⟨b,f,none⟩) d cap) (g:a.eval c=.int k i) (j:i<d) {r:Nat} (m:r=f+i*size):
  Sem.run P (execOp a.eval o) w=.ok (.value (.pointer (some ⟨b,r,none⟩))) w:=by
 obtain⟨u,h,p⟩:=Option.map_eq_some_iff.1 n;subst m;unfold execOp;simp only[l,s,g,Sem.run_bind];simp[Instr.indexAt,run_underlying q,Go.sizeOf,typeInfo,h,p,asIntOf,Instr.sureAddr,j,qG4]
theorem jL5{P:Program}{a:Act}{w}{o:Oper}{x c:Operand}{t e}{n:Nat}(j:o.op=.indexAddr t x c)(q:P.underlying t=some (.array n e)){size:Nat}(m:(P.info? e).map (·.size)=some size)
  (k:IntKind) (i b d:Nat) (s:a.eval x=.pointer (some ⟨b,d,none⟩)) (f:a.eval c=.int k i) (h:i<n) {r:Nat} (l:r=d+i*size):
  Sem.run P (execOp a.eval o) w=.ok (.value (.pointer (some ⟨b,r,none⟩))) w:=by
 obtain⟨u,g,p⟩:=Option.map_eq_some_iff.1 m;subst l;unfold execOp;simp only[j,s,f,Sem.run_bind];simp[Instr.indexAt,run_underlying q,Go.sizeOf,typeInfo,g,p,asIntOf,Instr.sureAddr,h,qG4]
theorem jL7{P:Program}{a:Act}{w}{o:Oper}{x y:Operand}{t}(j:o.op=.store t x y)(v)(m:(P.info? t).map (·.size)=some 1)(d:v.oneCell'=true)
  (b c:Nat) (n:a.eval x=.pointer (some ⟨b,c,none⟩)) (p:a.eval y=v) {cur} {tb} (e:w.heap[b]?=some (.cells cur tb)) (q:c<cur.size):
  Sem.run P (execOp a.eval o) w=.ok .skip (w.setRow b (qE2 cur c #[v])):=by
 obtain⟨i,g,h⟩:=Option.map_eq_some_iff.1 m;have f:v.cells=#[v]:=by cases v<;>first | rfl | cases d
 have k:=qP9 (P:=P) (w:=w) (o:=c) (vs:=[v]) e sO (by simp[d]);have l:Sem.run P (Instr.storeAt t (.pointer (some ⟨b,c,none⟩)) v) w=.ok () (w.setRow b (qE2 cur c #[v])):=by
  simp[Instr.storeAt,Instr.sureAddr,storeVar,Go.sizeOf,typeInfo,g,h,f,k]
 unfold execOp;simp only[j,Sem.run_bind,Sem.run_pure,Result.andThen_ok,n,p,l]
theorem jW2(m:Nat)(l)(w)(T:m<1000)(hl:l.length=m*128):
  Calls prog 123 #[.int .i64 m,.string ⟨l.toArray⟩] w λe u=>e=.returned (.pointer (some ⟨w.heap.size+1,0,none⟩))/\
   u.heap[w.heap.size]?=some (.cells (enc l) 115)/\u.heap[w.heap.size+1]?=some (qG6 m w.heap.size (.slice none 0 0) 0 0)/\Kp [] w u:=by
 go_enter func123,ntmps123;go_wp2_with fail;refine (xJ3 m w T m oM oM).mono ?_;rintro e w1 ⟨rfl,Z,N,X,rfl⟩;obtain⟨n,G,D,A,C⟩:∃ n,n=(w.alloc (.cells Z 115)).alloc (qG6 m w.heap.size (.slice none 0 0) 0 0)/\Kp [] w n/\n.heap[w.heap.size+1]?=some (qG6 m w.heap.size (.slice none 0 0) 0 0)/\Ϙ n w.heap.size (.cells Z 115):=
  ⟨_,rfl,(kF.alloc _).alloc _,by simpa using υ (w.alloc (.cells Z 115)) (qG6 m w.heap.size (.slice none 0 0) 0 0),ν _ (υ _ _)⟩
 rw[<-G];clear G;go_wp2
 go_loopw [6] (λi wr=>∃ (k:Nat) (cur:Array Value),k<=m*128/\i=.int .i64 k/\cur.size=m*128/\(∀ j,j<k->cur[j]?=(enc l)[j]?)/\Ϙ wr w.heap.size (.cells cur 115)/\wr.heap[w.heap.size+1]?=some (qG6 m w.heap.size (.slice none 0 0) 0 0)/\Kp [] w wr) (λi _=>m*128-(intOf i).toNat)
 case atStart=>exact⟨0,Z,zL _,rfl,N,λj s=>by omega,C,A,D⟩
 case round=>
  obtain⟨k,cur,hk,rfl,P,H,q,b,hK⟩:=hrel;have c0:=ξ b 0;simp at c0;have z:=zh H;clear H C A D;by_cases ab:k<m*128
  .obtain⟨x,J⟩:∃ x:UInt8,l[k]?=some x:=⟨_,gQ oM⟩;have y:=zh J;clear J;have O:decide ((k:Int)<(l.length:Int))=true:=sO
   have Y:decide ((k:Int)<(m:Int)*128)=true:=sO
   go_wp2_with fail;generalize F:Exit.inBlock 1 _=QQ;have r:=zh F;clear F;have f:Hid (∀ c a (d:Option Tmp) v w,QQ (.panic c) (a.put d v) w->QQ (.panic c) a w):=by
    rw[<-r.out];intro c a d v w h;cases d<;>exact h
   have U:IntKind.i64.wrap ((k:Int) / 128)=(k:Int) / 128:=by simp only[wK];omega
   have V:(k:Int).tmod 128=(k:Int) % 128:=Int.tmod_eq_emod_of_nonneg oM;refine wp_region_held_drew (S:=λW=>W.heap[w.heap.size+1]?=some (qG6 m w.heap.size (.slice none 0 0) 0 0)) kR b (λ_=>?_);refine wpAnyH_take (i:=0) (v:=ϖ (w.heap.size+1)) rfl kR kR kR (λc a w h=>f c a _ _ w h) (Or.inl ⟨by rfl,λW hS=>rfl⟩) b ?_;simp only[zZ];refine wpAnyH_take (i:=1) (v:=ϖ (w.heap.size+1)) rfl kR kR kR (λc a w h=>f c a _ _ w h) (Or.inl ⟨by rfl,λW hS=>rfl⟩) b ?_;simp only[zZ];refine wpAnyH_take (i:=2) (v:=ϖ (w.heap.size+1)) rfl kR kR kR (λc a w h=>f c a _ _ w h) (Or.inl ⟨by rfl,λW hS=>by clear hS;go_simp⟩) b ?_;simp only[zZ];refine wpAnyH_take (i:=3) (v:=.slice (some ⟨w.heap.size,0,none⟩) m m) rfl kR kR kR (λc a w h=>f c a _ _ w h) (Or.inl ⟨by rfl,λW hS=>by have c:=ξ hS 0;simp at c;clear hS;go_simp⟩) b ?_;simp only[zZ];refine wpAnyH_take (i:=4) (v:=.int .i64 k) rfl kR kR kR (λc a w h=>f c a _ _ w h) (Or.inl ⟨by rfl,λW hS=>rfl⟩) b ?_;simp only[zZ];refine wpAnyH_take (i:=5) (v:=.int .i64 ((k / 128:Nat):Int)) rfl kR kR kR (λc a w h=>f c a _ _ w h) (Or.inl ⟨by rfl,λW hS=>by clear hS;go_simp⟩) b ?_;simp only[zZ];refine wpAnyH_take (i:=6) (v:=.int .i64 k) rfl kR kR kR (λc a w h=>f c a _ _ w h) (Or.inl ⟨by rfl,λW hS=>rfl⟩) b ?_;simp only[zZ];refine wpAnyH_take (i:=7) (v:=.int .i64 ((k % 128:Nat):Int)) rfl kR kR kR (λc a w h=>f c a _ _ w h) (Or.inl ⟨by rfl,λW hS=>by clear hS;go_simp⟩) b ?_;simp only[zZ];refine wpAnyH_take (i:=8) (v:=.string ⟨l.toArray⟩) rfl kR kR kR (λc a w h=>f c a _ _ w h) (Or.inl ⟨by rfl,λW hS=>rfl⟩) b ?_;simp only[zZ];refine wpAnyH_take (i:=9) (v:=.int .i64 k) rfl kR kR kR (λc a w h=>f c a _ _ w h) (Or.inl ⟨by rfl,λW hS=>rfl⟩) b ?_;simp only[zZ];refine wpAnyH_take (i:=10) (v:=.int .u8 (x.toNat:Int)) rfl kR kR kR (λc a w h=>f c a _ _ w h) (Or.inl ⟨by rfl,λW hS=>by clear hS;go_simp;rw[dif_pos oM];have e:=y.out;rw[gQ oM] at e;simp at e;simp[<-e];rfl⟩) b ?_;simp only[zZ];refine wpAnyH_take (i:=11) (v:=.pointer (some ⟨w.heap.size,k / 128*128,none⟩)) rfl kR kR kR (λc a w h=>f c a _ _ w h) (Or.inl ⟨by rfl,λW hS=>jL6 rfl underlying111 (size:=128) kR .i64 (k / 128) w.heap.size 0 m m rfl rfl oM oM⟩) b ?_;simp only[zZ];refine wpAnyH_take (i:=12) (v:=.pointer (some ⟨w.heap.size,k,none⟩)) rfl kR kR kR (λc a w h=>f c a _ _ w h) (Or.inl ⟨by rfl,λW hS=>jL5 rfl underlying115 (size:=1) kR .i64 (k % 128) w.heap.size (k / 128*128) rfl rfl oM oM⟩) b ?_;simp only[zZ];refine wpAnyH_ready (rs:=[13]) kR sM ?_;refine AllReadyH.cons rfl (λK E=>?_) AllReadyH.nil;refine xP3 rfl (jL7 (t:=5) rfl (.int .u8 (x.toNat:Int)) kR rfl w.heap.size k rfl rfl (cur:=cur) (tb:=115) q oM) ?_;have B:=(setRow_other wr.drew w.heap.size (w.heap.size+1) (qE2 cur k #[.int .u8 (x.toNat:Int)]) oM).trans b;have L:=setRow_heap wr.drew w.heap.size _ (qE2 cur k #[.int .u8 (x.toNat:Int)]) _ _ q;have M:=(hK.drew).setRow (g:=w.heap.size) sM (qE2 cur k #[.int .u8 (x.toNat:Int)]);refine E.out _ _ B (λ_=>?_);clear E K;refine zd ?_;have R:(qE2 cur k #[.int .u8 (x.toNat:Int)]).size=m*128:=by rw[jV9 sO];exact P
   have I:∀ j,j<k+1->(qE2 cur k #[.int .u8 (x.toNat:Int)])[j]?=(enc l)[j]?:=by
    intro j s;by_cases Q:j=k
    .subst Q;have:=jV7 (cs:=cur) (p:=#[.int .u8 (x.toNat:Int)]) (o:=j) (j:=0) sO sM;rw[Nat.add_zero] at this;rw[this];simp[enc,qD2,y.out]
    .rw[jV8 sO oM];exact z j oM
   rw[<-r.out];generalize qE2 cur k #[.int .u8 (x.toNat:Int)]=cur2 at *;generalize wr.drew.setRow w.heap.size cur2=W2 at *;simp only[zZ];clear f r U V;have HL:=zh I;clear I;go_wp2;refine⟨⟨k+1,cur2,oM,by go_num,R,HL,L,B,M⟩,by simp[intOf];omega⟩
  .have O:decide ((k:Int)<(l.length:Int))=false:=sO
   go_wp2;go_ret;have aa:k=m*128:=oM
   have e:cur=enc l:=by
    apply Array.ext_getElem?;intro j;by_cases s:j<k
    .exact z j s
    .rw[Array.getElem?_eq_none oM,Array.getElem?_eq_none (by rw[qI7];omega)]
   rw[e] at q;exact⟨rfl,q,b,hK⟩
variable {κ:Nat}
def qE4(A n:Nat):Obj:=.cells #[.iface 27 (.pointer (some ⟨A,0,none⟩)),.int .i64 n] 263
def qB3(l:List UInt8)(i:Nat):List UInt8:=(l.drop (i*128)).take 128
theorem qL1:zeroCells288.size=128:=kR
variable {κ:Nat}
theorem qK4{w:World}{base b:Nat}{e:TypeId}{sz:Nat}{v:Value}{n:Nat}{xs:List Value}(h:w.ownsRow base e sz v n xs)(f:b<=base):w.ownsRow b e sz v n xs:=by
 obtain⟨c,a⟩:=h;refine⟨c,?_⟩;rcases a with a|⟨g,cap,cur,d,i,r⟩
 .exact .inl a
 .exact .inr ⟨g,cap,cur,d,oM,r⟩
theorem jP7{w:World}{g:Nat}{c:Array Value}{e:TypeId}(h:w.heap[g]?=some (.cells c e))(o:Nat):(w.freeze ⟨g,o,none⟩ 1).heap[g]?=some (.cells c e (o,o+1)):=by
 simp[World.freeze,Array.getElem?_modify,h]
theorem xC5{w:World}{g k:Nat}(a:k≠g)(o:Nat):(w.freeze ⟨g,o,none⟩ 1).heap[k]?=w.heap[k]?:=by
 have:g≠k:=λe=>a e.symm;simp[World.freeze,Array.getElem?_modify,this]
theorem Below.freeze{B:Nat}{a w}(h:Below B a w){g:Nat}(c:B<=g)(o:Nat):Below B a (w.freeze ⟨g,o,none⟩ 1):=
 ⟨h.os,h.tape,h.output,by have:=h.size;simp[World.freeze];omega,λk b=>(xC5 oM o).trans (h.block k b)⟩
theorem kK9{w}{g l a:Nat}{c}{e}(h:w.heap[g]?=some (.cells c e)):
  Sem.run prog (convert 118 118 (.slice (some ⟨g,0,none⟩) l a)) w=.ok (.slice (some ⟨g,0,none⟩) l a) (w.freeze ⟨g,c.size,none⟩ 1):=by
 have b:w.shape? g=some (e,c.size):=by simp[World.shape?,h]
 simp[convert,run_underlying underlying118,run_underlying underlying5,markStringish,b]
theorem xT8(g k:Nat)(xs:List Int)(n:Int)(m:Nat)(w)(S:k<=1000)(M:xs.length=k)(O:m<=100)(P:1<=m)(L:0<=n)
  (v:∀ j,j<k->w.cell? ⟨g,j,none⟩=some (.int .u8 (xs.getD j 0))):
  Calls prog 250 #[.slice (some ⟨g,0,none⟩) k k,.int .u64 n,.int .i64 m] w λe F=>∃ c,e=.returned c/\F.ownsRow w.heap.size 5 1 c (k+m) (u8s (xs++qB4 m n))/\Below w.heap.size w F:=by
 obtain⟨E,x,B,C,D⟩:=info_parts Tryz.info5;have J:∀ j,j<k->g<w.heap.size:=λj y=>World.block_lt_of_cell? w _ (v j y);go_enter func250,ntmps250;go_wp2
 go_loopw [0,1,8] (λs q i wr=>∃ (j:Nat) (c:Value) (a:Int),j<=m/\i=.int .i64 j/\q=.int .u64 a/\a=n / (256:Int) ^ j/\0<=a/\a<=n/\s=c/\((j=0/\c=.slice (some ⟨g,0,none⟩) k k/\w=wr)\/(1<=j/\wr.ownsRow w.heap.size 5 1 c (k+j) (u8s (xs++qB4 j n))))/\Below w.heap.size w wr) (λ_ _ i _=>m-(intOf i).toNat)
 case atStart=>exact⟨0,_,n,Nat.zero_le _,rfl,rfl,sM,L,Int.le_refl _,rfl,.inl ⟨rfl,rfl,rfl⟩,Below.refl _ _⟩
 case round=>
  obtain⟨j,c,a,y,rfl,rfl,A,Q,R,rfl,I,d⟩:=hrel;have f:=zh A;clear A;rcases I with⟨rfl,rfl,rfl⟩|⟨N,p⟩
  .have K:0<m:=oM
   have G:Hid (∀ b,(some (⟨g,0,none⟩:Addr))=some b->∀ j u,(u8s xs)[j]?=some u->(w.alloc (.cells #[.int .u8 (a % 256)] 5)).cell? (b.add j)=some u):=by
    intro b H j u r;cases H;rw[qG4,Nat.zero_add];have z:j<k:=by have:=(List.getElem?_eq_some_iff.1 r).1;simp[u8s] at this;omega
    rw[World.cell?_alloc_past _ _ _ (J j z),v j z];simp[u8s,List.getElem?_eq_getElem (show j<xs.length by omega)] at r;simp[List.getD_eq_getElem?_getD,List.getElem?_eq_getElem (show j<xs.length by omega),r]
   go_wp2_with (at_builtin;go_must (refine wpList_append_grows _ rfl _ _ 118 rfl 5 E (.int .u8 0) 1 1 underlying118 x B C D rfl dC (some ⟨g,0,none⟩) k k (u8s xs) rfl sM (by simp[u8s,M]) G ⟨w.heap.size,0,none⟩ 1 1 [.int .u8 (a % 256)] rfl rfl (cell_one_new _ _ _) (by simp[Value.oneCell']) oM (by unfold maxLen;omega) oM ?_);intro t w1 o l)
   refine⟨⟨1,t,a / 256,oM,rfl,rfl,?_,oM,oM,rfl,.inr ⟨Nat.le_refl _,?_⟩,?_⟩,by simp[intOf];omega⟩
   .rw[f.out];simp
   .have h:u8s (xs++qB4 1 n)=u8s xs++[.int .u8 (a % 256)]:=by rw[f.out];simp[u8s,qB4]
    rw[h];exact qK4 o sM
   .exact (d.alloc (Nat.le_refl _) _).grown l sM sM
  .by_cases K:j<m
   .go_wp2_with (at_builtin;refine wpList_append_own _ rfl _ _ 118 rfl w.heap.size 5 E (.int .u8 0) 1 1 underlying118 x B C D rfl dC _ _ _ rfl (p.alloc _) ⟨wr.heap.size,0,none⟩ 1 1 [.int .u8 (a % 256)] rfl rfl (cell_one_new _ _ _) (by simp[Value.oneCell']) (by unfold maxLen;omega) oM (by have:=d.size;simp;omega) ?_;intro t w1 o l _)
    refine⟨⟨j+1,t,a / 256,oM,by go_num,rfl,?_,oM,oM,rfl,.inr ⟨oM,?_⟩,?_⟩,by simp[intOf];omega⟩
    .rw[f.out,Int.ediv_ediv_of_nonneg (by exact Int.pow_nonneg dC),Int.pow_succ]
    .have h:u8s (xs++qB4 (j+1) n)=u8s (xs++qB4 j n)++[.int .u8 (a % 256)]:=by rw[zP2,<-f.out];simp[u8s]
     rw[h];exact o
    .exact (d.alloc (by have:=d.size;omega) _).grown l (by have:=d.size;simp;omega) (qI6 p)
   .go_wp2;go_ret;have e:j=m:=oM
    subst e;exact⟨_,rfl,p,d⟩
def qK8:List Int:=[115,104,97,100,111,119]
def qO1(N rb rs:Int):List Int:=qK8++qB4 2 rb++qB4 8 N++qB4 8 rs
def qJ0(N rb rs:Int):List Int:=qO1 N rb rs++qB4 8 (fnv (qO1 N rb rs))
theorem qY8(xs:List Int):0<=fnv xs:=by
 unfold fnv
 suffices h:∀ s:Int,0<=s->0<=xs.foldl qV3 s from h _ dC
 induction xs with
 | nil=>intro s a;simpa using a
 | cons x xs ih=>
  intro s a;rw[List.foldl_cons];apply ih;simp only[qV3,IntKind.wrap_u64];exact Int.emod_nonneg _ dC
theorem kM2(N rb rs:Int):(qO1 N rb rs).length=24:=by simp[qO1,qK8,qI0]
theorem zS6(N rb rs:Int):(qJ0 N rb rs).length=32:=by simp[qJ0,kM2,qI0]
theorem kG3{w:World}{base:Nat}{v:Value}{k:Nat}{xs:List Int}(h:w.ownsRow base 5 1 v (k+1) (u8s xs)):∃ g cap,v=.slice (some ⟨g,0,none⟩) (k+1) cap/\base<=g/\xs.length=k+1/\∀ j,j<k+1->w.cell? ⟨g,0+j,none⟩=some (.int .u8 (xs.getD j 0)):=by
 obtain⟨f,b⟩:=h;rcases b with⟨_,a⟩|⟨g,cap,cur,rfl,c,d,m,_,o,i⟩
 .cases a
 .have l:xs.length=k+1:=by simpa [u8s] using f
  refine⟨g,cap,rfl,c,l,λj n=>?_⟩;rw[ξ d];have e:(cur.toList.take ((k+1)*1))[j]?=(u8s xs)[j]?:=by rw[i]
  rw[List.getElem?_take,if_pos oM] at e;rw[Nat.zero_add,<-Array.getElem?_toList,e];simp[u8s,List.getD_eq_getElem?_getD,gQ (show j<xs.length by omega)]
theorem xO4(N rb rs:Int)(w)(F:0<=N)(J:0<=rb)(Q:rb<=65535)(M:0<=rs):
  Calls prog 207 #[.agg #[.int .u64 N,.int .i64 rb,.int .u64 rs]] w λe x=>∃ v,e=.returned v/\x.ownsRow w.heap.size 5 1 v 32 (u8s (qJ0 N rb rs))/\Below w.heap.size w x:=by
 go_enter func207,ntmps207;go_wp2_with fail;have b:=υ (w.alloc (.cells #[.int .u64 N,ϊ rb,.int .u64 rs] 166)) (.cells #[.int .u8 115,.int .u8 104,.int .u8 97,.int .u8 100,.int .u8 111,.int .u8 119] 5);rw[show (w.alloc (.cells #[.int .u64 N,ϊ rb,.int .u64 rs] 166)).heap.size=w.heap.size+1 from by simp] at b;rw[kK9 b];obtain⟨a,t,E,f,q⟩:∃ a,a=((w.alloc (.cells #[.int .u64 N,ϊ rb,.int .u64 rs] 166)).alloc (.cells #[.int .u8 115,.int .u8 104,.int .u8 97,.int .u8 100,.int .u8 111,.int .u8 119] 5)).freeze ⟨w.heap.size+1,#[Value.int .u8 115,Value.int .u8 104,Value.int .u8 97,Value.int .u8 100,Value.int .u8 111,Value.int .u8 119].size,none⟩ 1/\
   Below w.heap.size w a/\Ϙ a w.heap.size (.cells #[.int .u64 N,ϊ rb,.int .u64 rs] 166)/\(∀ j,j<6->a.cell? ⟨w.heap.size+1,j,none⟩=some (.int .u8 (qK8.getD j 0))):=
  ⟨_,rfl,Below.freeze (((Below.refl _ _).alloc lR _).alloc sM _) oM _,(xC5 oM _).trans (ν _ (υ _ _)),λj K=>by
   rw[ξ (jP7 b _)]
   match j,K with
   | 0,_=>rfl
   | 1,_=>rfl
   | 2,_=>rfl
   | 3,_=>rfl
   | 4,_=>rfl
   | 5,_=>rfl⟩
 rw[<-t];clear t b;have O:w.heap.size+1<=a.heap.size:=by have:=ζ f;omega
 have l:=ξ f 1;simp at l;have i:=zh q;clear q;go_wp2_with fail;refine (xT8 (w.heap.size+1) 6 qK8 rb 2 a oM rfl oM oM J i).mono ?_;rintro e z ⟨V,rfl,r,c⟩;have p:=(c.block w.heap.size oM).trans f;have S:=c.size;have m:=ξ p 0;simp at m;have G:=qK4 r O;clear l i r;go_wp2_with fail;refine (zK0 _ (w.heap.size+1) (6+2) (qK8++qB4 2 rb) N 8 z oM oM F oM G).mono ?_;rintro e A ⟨W,rfl,H,d⟩;have D:=(d.block w.heap.size oM).trans p;have T:=d.size;have n:=ξ D 2;simp at n;clear m;go_wp2_with fail;refine (zK0 _ (w.heap.size+1) (6+2+8) (qK8++qB4 2 rb++qB4 8 N) rs 8 A oM oM M oM H).mono ?_;rintro e B ⟨X,rfl,h,o⟩;have U:=o.size;clear n;have s:u8s (qK8++qB4 2 rb++qB4 8 N++qB4 8 rs)=u8s (qO1 N rb rs):=rfl;rw[s] at h;obtain⟨g,cap,rfl,R,L,u⟩:=kG3 (k:=23) h;have y:=zh u;clear u s;go_wp2_with fail;refine (zI0 g 0 24 cap (qO1 N rb rs) B L oM y).mono ?_;rintro e Z ⟨rfl,rfl⟩;go_wp2_with fail;refine (zK0 _ (w.heap.size+1) 24 (qO1 N rb rs) (fnv (qO1 N rb rs)) 8 _ oM oM (qY8 _) oM h).mono ?_;rintro e P ⟨Y,rfl,I,C⟩;go_wp2;go_ret;refine⟨_,rfl,qK4 I oM,E.trans (((c.mono oM).trans (d.mono oM)).trans ((o.mono oM).trans (C.mono oM)))⟩
def qI8(N rb rs:Int):Value:=.agg #[.int .u64 N,.int .i64 rb,.int .u64 rs]
theorem zR6(N rb rs:Int)(w)(b:0<=N):
  Calls prog 209 #[.agg #[.int .u64 N,.int .i64 rb,.int .u64 rs]] w λe a=>e=.returned (.int .i64 (N % 2))/\Below w.heap.size w a:=by
 go_enter func209,ntmps209;go_wp2;go_ret;exact⟨rfl,(Below.refl _ _).alloc lR _⟩
theorem zG3(N rb rs a b:Int)(w)(f:0<=N)(d:N<=1000000000):
  Calls prog 141 #[.agg #[.int .u64 N,.int .i64 rb,.int .u64 rs],.agg #[.int .i64 a,.int .u64 b]] w λe c=>e=.returned (.agg #[.int .u64 (N+1),.int .i64 a,.int .u64 b])/\Below w.heap.size w c:=by
 go_enter func141,ntmps141;go_wp2;refine bodyPost_ret (results_cell_row results141 _ _ (w.heap.size+1+1) 166 #[.int .u64 (N+1),ϊ a,.int .u64 b] (0,0) _ rfl ?_ underlying166 rfl kR) rfl ⟨rfl,(((Below.refl _ _).alloc lR _).alloc sM _).alloc sO _⟩;simpa using υ ((w.alloc (.cells #[.int .u64 N,ϊ rb,.int .u64 rs] 166)).alloc (.cells #[ϊ a,.int .u64 b] 84)) (.cells #[.int .u64 (N+1),ϊ a,.int .u64 b] 166)
theorem xN9{w}{g o n cap:Nat}{ca}{tg}{fa}{l}(h:w.heap[g]?=some (.cells ca tg fa))(d:qA9 ca o n=enc l)(c:o+n<=ca.size):
  Sem.run prog (convert 118 9 (.slice (some ⟨g,o,none⟩) n cap)) w=.ok (.string ⟨l.toArray⟩) w:=by
 rw[run_convert_bytes_string w _ _ _ _ _ _ underlying118 underlying5 underlying9];have a:=zB2 (P:=prog) (o:=o) (n:=n) h c;have e:enc l=((l.map (λb=>(b.toNat:Int))).map (.int .u8)).toArray:=by simp[enc,qD2]
 rw[d,e] at a;rw[run_bytesToString w _ _ _ _ a,zM6];simp
theorem jL1(g o n cap h c d:Nat)(a b)(w)(tg th)(ca cb)(fa fb)(f:w.heap[g]?=some (.cells ca tg fa))(j:w.heap[h]?=some (.cells cb th fb))
  (l:qA9 ca o n=enc a) (m:qA9 cb c n=enc b) (i:o+n<=ca.size) (k:c+n<=cb.size):
  Calls prog 249 #[.slice (some ⟨g,o,none⟩) n cap,.slice (some ⟨h,c,none⟩) n d] w λe p=>e=.returned (.bool (a == b))/\p=w:=by
 have q:=xN9 (cap:=cap) f l i;have r:=xN9 (cap:=d) j m k;clear f j l m i k;go_enter func249,ntmps249;go_wp2;go_ret;exact⟨rfl,rfl⟩
end Go.Proofs.YtdohpenfkdckiaaGreatDoor
