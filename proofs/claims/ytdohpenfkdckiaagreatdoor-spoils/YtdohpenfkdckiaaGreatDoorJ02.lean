import Derived.Test.YtdohpenfkdckiaaGreatDoorJ01
import Derived.Deep.RegionLaw
import Derived.Deep.RegionLawGrows
import Derived.Deep.RegionWith
import Derived.Deep.DeepMust
import Derived.Lib.Strings
import Derived.Lib.BufferWrite
import Derived.Lib.UnsafeStr
import Derived.Laws.MakeOwn
set_option linter.all false
set_option maxRecDepth 100000
set_option maxHeartbeats 20000000
namespace Go.Proofs.YtdohpenfkdckiaaGreatDoor
open Go.Proofs.Tryz
open Go.RowKit
variable {κ:Nat}
def qA6(κ n C:Nat)(cache:Value)(calls writes:Int):Obj:=
 .cells #[.slice (some ⟨C,0,none⟩) n κ,cache,.int .i64 calls,.int .i64 writes,.int .i64 0,.int .i64 (-1),.int .i64 0,.int .i64 0] 114
abbrev qM9(n C:Nat)(cache:Value)(calls writes:Int):Obj:=qA6 n n C cache calls writes
theorem xL9(A n C:Nat)(cache)(a c:Int)(i:Int)(w)(h:w.heap[A]?=some (qA6 κ n C cache a c))(d:0<=i)(f:i<n):
  Calls prog 330 #[.pointer (some ⟨A,0,none⟩),.int .i64 i] w λe b=>e=.returned (.bool false)/\b=w:=by
 have c0:=ξ h 0;simp at c0;clear h;go_enter func330,ntmps330;go_wp2;go_ret;exact⟨rfl,rfl⟩
theorem xZ9(A n C:Nat)(cache)(a c:Int)(w)(h:w.heap[A]?=some (qA6 κ n C cache a c)):
  Calls prog 325 #[.pointer (some ⟨A,0,none⟩)] w λe b=>e=.returned (.int .i64 n)/\b=w:=by
 have c0:=ξ h 0;simp at c0;clear h;go_enter func325,ntmps325;go_wp2;go_ret;exact⟨rfl,rfl⟩
theorem qL8(A n C:Nat)(cache)(a c:Int)(w)(h:w.heap[A]?=some (qA6 κ n C cache a c)):
  Calls prog 126 #[.pointer (some ⟨A,0,none⟩)] w λe b=>e=.returned (.int .i64 0)/\b=w:=by
 have c0:=ξ h 4;simp at c0;clear h;go_enter func126,ntmps126;go_wp2;go_ret;exact⟨rfl,rfl⟩
def allBytes(cs:Array Value):Prop:=∀ v∈cs.toList,∃ x,v=.int .u8 x
theorem allBytes.one{cs}(h:allBytes cs):∀ v∈cs.toList,v.oneCell'=true:=λv hv=>by obtain⟨x,rfl⟩:=h v hv;rfl
theorem zD4{cs}(h:allBytes cs)(o n:Nat):allBytes (qB0 cs o n):=λv a=>h v (mD (mT (by simpa [qB0] using a)))
theorem qO7{cs p}(h:cs.size=p.size):qI2 cs 0 p=p:=by
 have e:cs.toList.drop p.size=[]:=dL (by simp[h]);simp[qI2,e]
theorem Tryz.size5:(prog.info? 5).map (·.size)=some 1:=kR
variable {κ:Nat}
theorem zF9:(prog.info? 117).map (λi=>(i.zero,i.size,i.bytes))=some (some (.agg zeroCells117),129,136):=kR
theorem qX7:zeroCells117.size=129:=kR
theorem kS1:∀ v∈zeroCells117.toList,v.oneCell'=true:=by
 have h:zeroCells117.toList.all (·.oneCell')=true:=kR
 exact List.all_eq_true.1 h
theorem zO1:(prog.info? 115).map (λi=>(i.zero,i.size,i.bytes))=some (some (.agg zeroCells115),128,128):=kR
theorem zU9:∀ v∈zeroCells115.toList,v=.int .u8 0:=by
 have h:zeroCells115.toList=List.replicate 128 (.int .u8 0):=kR
 intro v hv;rw[h] at hv;exact List.eq_of_mem_replicate hv
theorem zK4:zeroCells115.size=128:=kR
theorem xL3(m:Nat)(w)(i:m<1000)(k:Int)(g:0<=k)(f:k % 1000=m):
  Calls prog 41 #[.int .i64 k] w λe d=>e=.returned (.pointer (some ⟨w.heap.size+1,0,none⟩))/\∃ Z:Array Value,Z.size=m*128/\(∀ v∈Z.toList,v=.int .u8 0)/\
   d=(w.alloc (.cells Z 115)).alloc (qM9 m w.heap.size (.slice none 0 0) 0 0):=by
 go_enter func41,ntmps41;have h:¬k<0:=oM
 go_wp2;obtain⟨Z,b,c,a⟩:=xP5 (P:=prog) (.agg zeroCells115) (.int .u8 0) 128 128 underlying111 zO1 zU9 (by simp[Value.cells,zK4]) .i64 .i64 m oM oM w;rw[a];clear a;go_wp2;go_ret;exact⟨rfl,Z,b,c,rfl⟩
def qC0(l:List UInt8):List Value:=l.map (fun b=>.int .u8 (b.toNat:Int))
def enc(l:List UInt8):Array Value:=(qC0 l).toArray
theorem zE7(l):(qC0 l).length=l.length:=by simp[qC0]
theorem qH1(l):(enc l).size=l.length:=by simp[enc,qC0]
theorem qJ4(l):allBytes (enc l):=by
 intro v a;simp[enc,qC0] at a;obtain⟨b,_,rfl⟩:=a;exact⟨_,rfl⟩
theorem jG3(a b):qC0 (a++b)=qC0 a++qC0 b:=by simp[qC0]
theorem qP2(l)(o n:Nat):qB0 (enc l) o n=enc ((l.drop o).take n):=by simp[qB0,enc,qC0,List.map_take,List.map_drop]
theorem xG7(l p)(o:Nat):qI2 (enc l) o (enc p)=enc (l.take o++p++l.drop (o+p.length)):=by
 simp[qI2,enc,qC0,List.map_take,List.map_drop]
theorem zN6(l:List UInt8)(s:ByteArray):(l.map (λb=>(b.toNat:Int))).foldl (λr n=>r.push (UInt8.ofNat n.toNat)) s=⟨(s.data.toList++l).toArray⟩:=by
 induction l generalizing s with
 | nil=>simp
 | cons b l ih=>
  rw[List.map_cons,List.foldl_cons,ih];simp[ByteArray.push]
theorem jV2(w)(k:Int)(f:k<0):
  Calls prog 41 #[.int .i64 k] w λe d=>e=.returned (.pointer (some ⟨w.heap.size+1,0,none⟩))/\∃ Z:Array Value,Z.size=0*128/\(∀ v∈Z.toList,v=.int .u8 0)/\
   d=(w.alloc (.cells Z 115)).alloc (qM9 0 w.heap.size (.slice none 0 0) 0 0):=by
 go_enter func41,ntmps41;go_wp2;obtain⟨Z,b,c,a⟩:=xP5 (P:=prog) (.agg zeroCells115) (.int .u8 0) 128 128 underlying111 zO1 zU9 (by simp[Value.cells,zK4]) .i64 .i64 0 oM oM w;simp only[Int.ofNat_zero,Int.natCast_zero] at a;rw[a];clear a;go_wp2;go_ret;exact⟨rfl,Z,b,c,rfl⟩
theorem kE3{w}{base:Nat}{v}{k:Nat}{l}(h:w.ownsRow base 5 1 v k (qC0 l)):
  Sem.run prog (convert 118 9 v) w=.ok (.string ⟨l.toArray⟩) w:=by
 obtain⟨f,c⟩:=h;rw[zE7] at f;rcases c with⟨rfl,m⟩|⟨g,cap,cur,rfl,_,d,p,_,q,j⟩
 .have:l=[]:=List.eq_nil_of_length_eq_zero oM;subst this;rw[run_convert_bytes_string w _ _ _ _ _ _ underlying118 underlying5 underlying9];rfl
 .rw[run_convert_bytes_string w _ _ _ _ _ _ underlying118 underlying5 underlying9];have i:qB0 cur 0 k=((l.map (λb=>(b.toNat:Int))).map (.int .u8)).toArray:=by
   have e:(l.map (λb=>(b.toNat:Int))).map (Value.int .u8)=qC0 l:=by simp[qC0]
   rw[e,<-j];simp[qB0]
  have a:=zB6 (P:=prog) (o:=0) (n:=k) d oM;rw[i] at a;rw[run_bytesToString w _ _ _ _ a,zN6];simp
variable {κ:Nat}
def qE4(A n:Nat):Obj:=.cells #[.iface 27 (.pointer (some ⟨A,0,none⟩)),.int .i64 n] 263
def ω(l:List UInt8)(i:Nat):List UInt8:=(l.drop (i*128)).take 128
theorem qK4:zeroCells288.size=128:=kR
variable {κ:Nat}
theorem qL0{w:World}{base b:Nat}{e:TypeId}{sz:Nat}{v:Value}{n:Nat}{xs:List Value}(h:w.ownsRow base e sz v n xs)(f:b<=base):w.ownsRow b e sz v n xs:=by
 obtain⟨c,a⟩:=h;refine⟨c,?_⟩;rcases a with a|⟨g,cap,cur,d,i,r⟩
 .exact .inl a
 .exact .inr ⟨g,cap,cur,d,oM,r⟩
theorem jL8{w:World}{g:Nat}{c:Array Value}{e:TypeId}(h:w.heap[g]?=some (.cells c e))(o:Nat):(w.freeze ⟨g,o,none⟩ 1).heap[g]?=some (.cells c e (o,o+1)):=by
 simp[World.freeze,Array.getElem?_modify,h]
theorem xE2{w:World}{g k:Nat}(a:k≠g)(o:Nat):(w.freeze ⟨g,o,none⟩ 1).heap[k]?=w.heap[k]?:=by
 have:g≠k:=λe=>a e.symm;simp[World.freeze,Array.getElem?_modify,this]
theorem Below.freeze{B:Nat}{a w}(h:Below B a w){g:Nat}(c:B<=g)(o:Nat):Below B a (w.freeze ⟨g,o,none⟩ 1):=
 ⟨h.os,h.tape,h.output,by have:=h.size;simp[World.freeze];omega,λk b=>(xE2 oM o).trans (h.block k b)⟩
theorem kD9{w}{g l a:Nat}{c}{e}(h:w.heap[g]?=some (.cells c e)):
  Sem.run prog (convert 118 118 (.slice (some ⟨g,0,none⟩) l a)) w=.ok (.slice (some ⟨g,0,none⟩) l a) (w.freeze ⟨g,c.size,none⟩ 1):=by
 have b:w.shape? g=some (e,c.size):=by simp[World.shape?,h]
 simp[convert,run_underlying underlying118,run_underlying underlying5,markStringish,b]
theorem xV7(g k:Nat)(xs:List Int)(n:Int)(m:Nat)(w)(T:k<=1000)(M:xs.length=k)(P:m<=100)(Q:1<=m)(L:0<=n)
  (v:∀ j,j<k->w.cell? ⟨g,j,none⟩=some (.int .u8 (xs.getD j 0))):
  Calls prog 250 #[.slice (some ⟨g,0,none⟩) k k,.int .u64 n,.int .i64 m] w λe F=>∃ c,e=.returned c/\F.ownsRow w.heap.size 5 1 c (k+m) (u8s (xs++qB5 m n))/\Below w.heap.size w F:=by
 obtain⟨E,x,B,C,D⟩:=info_parts Tryz.info5;have J:∀ j,j<k->g<w.heap.size:=λj y=>World.block_lt_of_cell? w _ (v j y);go_enter func250,ntmps250;go_wp2
 go_loopw [0,1,8] (λs q i wr=>∃ (j:Nat) (c:Value) (a:Int),j<=m/\i=.int .i64 j/\q=.int .u64 a/\a=n / (256:Int) ^ j/\0<=a/\a<=n/\s=c/\((j=0/\c=.slice (some ⟨g,0,none⟩) k k/\w=wr)\/(1<=j/\wr.ownsRow w.heap.size 5 1 c (k+j) (u8s (xs++qB5 j n))))/\Below w.heap.size w wr) (λ_ _ i _=>m-(intOf i).toNat)
 case atStart=>exact⟨0,_,n,Nat.zero_le _,rfl,rfl,sM,L,Int.le_refl _,rfl,.inl ⟨rfl,rfl,rfl⟩,Below.refl _ _⟩
 case round=>
  obtain⟨j,c,a,y,rfl,rfl,A,R,S,rfl,I,d⟩:=hrel;have f:=zh A;clear A;rcases I with⟨rfl,rfl,rfl⟩|⟨O,p⟩
  .have K:0<m:=oM
   have G:Hid (∀ b,(some (⟨g,0,none⟩:Addr))=some b->∀ j u,(u8s xs)[j]?=some u->(w.alloc (.cells #[.int .u8 (a % 256)] 5)).cell? (b.add j)=some u):=by
    intro b H j u r;cases H;rw[qH0,Nat.zero_add];have z:j<k:=by have:=(List.getElem?_eq_some_iff.1 r).1;simp[u8s] at this;omega
    rw[World.cell?_alloc_past _ _ _ (J j z),v j z];simp[u8s,List.getElem?_eq_getElem (show j<xs.length by omega)] at r;simp[List.getD_eq_getElem?_getD,List.getElem?_eq_getElem (show j<xs.length by omega),r]
   go_wp2_with (at_builtin;go_must (refine wpList_append_grows _ rfl _ _ 118 rfl 5 E (.int .u8 0) 1 1 underlying118 x B C D rfl dC (some ⟨g,0,none⟩) k k (u8s xs) rfl sM (by simp[u8s,M]) G ⟨w.heap.size,0,none⟩ 1 1 [.int .u8 (a % 256)] rfl rfl (cell_one_new _ _ _) (by simp[Value.oneCell']) oM (by unfold maxLen;omega) oM ?_);intro t N o l)
   refine⟨⟨1,t,a / 256,oM,rfl,rfl,?_,oM,oM,rfl,.inr ⟨Nat.le_refl _,?_⟩,?_⟩,by simp[intOf];omega⟩
   .rw[f.out];simp
   .have h:u8s (xs++qB5 1 n)=u8s xs++[.int .u8 (a % 256)]:=by rw[f.out];simp[u8s,qB5]
    rw[h];exact qL0 o sM
   .exact (d.alloc (Nat.le_refl _) _).grown l sM sM
  .by_cases K:j<m
   .go_wp2_with (at_builtin;refine wpList_append_own _ rfl _ _ 118 rfl w.heap.size 5 E (.int .u8 0) 1 1 underlying118 x B C D rfl dC _ _ _ rfl (p.alloc _) ⟨wr.heap.size,0,none⟩ 1 1 [.int .u8 (a % 256)] rfl rfl (cell_one_new _ _ _) (by simp[Value.oneCell']) (by unfold maxLen;omega) oM (by have:=d.size;simp;omega) ?_;intro t N o l _)
    refine⟨⟨j+1,t,a / 256,oM,by go_num,rfl,?_,oM,oM,rfl,.inr ⟨oM,?_⟩,?_⟩,by simp[intOf];omega⟩
    .rw[f.out,Int.ediv_ediv_of_nonneg (by exact Int.pow_nonneg dC),Int.pow_succ]
    .have h:u8s (xs++qB5 (j+1) n)=u8s (xs++qB5 j n)++[.int .u8 (a % 256)]:=by rw[zQ1,<-f.out];simp[u8s]
     rw[h];exact o
    .exact (d.alloc (by have:=d.size;omega) _).grown l (by have:=d.size;simp;omega) (qI4 p)
   .go_wp2;go_ret;have e:j=m:=oM
    subst e;exact⟨_,rfl,p,d⟩
def qJ6:List Int:=[115,104,97,100,111,119]
def qJ2(N rb rs:Int):List Int:=qJ6++qB5 2 rb++qB5 8 N++qB5 8 rs
def qG9(N rb rs:Int):List Int:=qJ2 N rb rs++qB5 8 (fnv (qJ2 N rb rs))
theorem qR3(xs:List Int):0<=fnv xs:=by
 unfold fnv
 suffices h:∀ s:Int,0<=s->0<=xs.foldl qJ5 s from h _ dC
 induction xs with
 | nil=>intro s a;simpa using a
 | cons x xs ih=>
  intro s a;rw[List.foldl_cons];apply ih;simp only[qJ5,IntKind.wrap_u64];exact Int.emod_nonneg _ dC
theorem zT4(N a rs:Int):(qJ2 N a rs).length=24:=by simp[qJ2,qJ6,qH9]
theorem zT5(N a rs:Int):(qG9 N a rs).length=32:=by simp[qG9,zT4,qH9]
theorem jZ1{w:World}{base:Nat}{v:Value}{k:Nat}{xs:List Int}(h:w.ownsRow base 5 1 v (k+1) (u8s xs)):∃ g cap,v=.slice (some ⟨g,0,none⟩) (k+1) cap/\base<=g/\xs.length=k+1/\∀ j,j<k+1->w.cell? ⟨g,0+j,none⟩=some (.int .u8 (xs.getD j 0)):=by
 obtain⟨f,b⟩:=h;rcases b with⟨_,a⟩|⟨g,cap,cur,rfl,c,d,m,_,o,i⟩
 .cases a
 .have l:xs.length=k+1:=by simpa [u8s] using f
  refine⟨g,cap,rfl,c,l,λj n=>?_⟩;rw[ξ d];have e:(cur.toList.take ((k+1)*1))[j]?=(u8s xs)[j]?:=by rw[i]
  rw[List.getElem?_take,if_pos oM] at e;rw[Nat.zero_add,<-Array.getElem?_toList,e];simp[u8s,List.getD_eq_getElem?_getD,gQ (show j<xs.length by omega)]
theorem xQ4(N a rs:Int)(w)(G:0<=N)(K:0<=a)(R:a<=65535)(O:0<=rs):
  Calls prog 207 #[.agg #[.int .u64 N,.int .i64 a,.int .u64 rs]] w λe y=>∃ v,e=.returned v/\y.ownsRow w.heap.size 5 1 v 32 (u8s (qG9 N a rs))/\Below w.heap.size w y:=by
 go_enter func207,ntmps207;go_wp2_with fail;have c:=υ (w.alloc (.cells #[.int .u64 N,ϊ a,.int .u64 rs] 166)) (.cells #[.int .u8 115,.int .u8 104,.int .u8 97,.int .u8 100,.int .u8 111,.int .u8 119] 5);rw[show (w.alloc (.cells #[.int .u64 N,ϊ a,.int .u64 rs] 166)).heap.size=w.heap.size+1 from by simp] at c;rw[kD9 c];obtain⟨b,u,F,h,r⟩:∃ b,b=((w.alloc (.cells #[.int .u64 N,ϊ a,.int .u64 rs] 166)).alloc (.cells #[.int .u8 115,.int .u8 104,.int .u8 97,.int .u8 100,.int .u8 111,.int .u8 119] 5)).freeze ⟨w.heap.size+1,#[Value.int .u8 115,Value.int .u8 104,Value.int .u8 97,Value.int .u8 100,Value.int .u8 111,Value.int .u8 119].size,none⟩ 1/\
   Below w.heap.size w b/\Ϙ b w.heap.size (.cells #[.int .u64 N,ϊ a,.int .u64 rs] 166)/\(∀ j,j<6->b.cell? ⟨w.heap.size+1,j,none⟩=some (.int .u8 (qJ6.getD j 0))):=
  ⟨_,rfl,Below.freeze (((Below.refl _ _).alloc lR _).alloc sM _) oM _,(xE2 oM _).trans (ρ _ (υ _ _)),λj L=>by
   rw[ξ (jL8 c _)]
   match j,L with
   | 0,_=>rfl
   | 1,_=>rfl
   | 2,_=>rfl
   | 3,_=>rfl
   | 4,_=>rfl
   | 5,_=>rfl⟩
 rw[<-u];clear u c;have P:w.heap.size+1<=b.heap.size:=by have:=ζ h;omega
 have m:=ξ h 1;simp at m;have l:=zh r;clear r;go_wp2_with fail;refine (xV7 (w.heap.size+1) 6 qJ6 a 2 b oM rfl oM oM K l).mono ?_;rintro e A ⟨W,rfl,s,d⟩;have q:=(d.block w.heap.size oM).trans h;have T:=d.size;have n:=ξ q 0;simp at n;have H:=qL0 s P;clear m l s;go_wp2_with fail;refine (zL5 _ (w.heap.size+1) (6+2) (qJ6++qB5 2 a) N 8 A oM oM G oM H).mono ?_;rintro e B ⟨X,rfl,I,f⟩;have E:=(f.block w.heap.size oM).trans q;have U:=f.size;have o:=ξ E 2;simp at o;clear n;go_wp2_with fail;refine (zL5 _ (w.heap.size+1) (6+2+8) (qJ6++qB5 2 a++qB5 8 N) rs 8 B oM oM O oM I).mono ?_;rintro e C ⟨Y,rfl,i,p⟩;have V:=p.size;clear o;have t:u8s (qJ6++qB5 2 a++qB5 8 N++qB5 8 rs)=u8s (qJ2 N a rs):=rfl;rw[t] at i;obtain⟨g,cap,rfl,S,M,x⟩:=jZ1 (k:=23) i;have z:=zh x;clear x t;go_wp2_with fail;refine (zB9 g 0 24 cap (qJ2 N a rs) C M oM z).mono ?_;rintro e w5 ⟨rfl,rfl⟩;go_wp2_with fail;refine (zL5 _ (w.heap.size+1) 24 (qJ2 N a rs) (fnv (qJ2 N a rs)) 8 _ oM oM (qR3 _) oM i).mono ?_;rintro e Q ⟨Z,rfl,J,D⟩;go_wp2;go_ret;refine⟨_,rfl,qL0 J oM,F.trans (((d.mono oM).trans (f.mono oM)).trans ((p.mono oM).trans (D.mono oM)))⟩
def qI6(N rb rs:Int):Value:=.agg #[.int .u64 N,.int .i64 rb,.int .u64 rs]
theorem zS2(N a rs:Int)(w)(c:0<=N):
  Calls prog 209 #[.agg #[.int .u64 N,.int .i64 a,.int .u64 rs]] w λe b=>e=.returned (.int .i64 (N % 2))/\Below w.heap.size w b:=by
 go_enter func209,ntmps209;go_wp2;go_ret;exact⟨rfl,(Below.refl _ _).alloc lR _⟩
theorem xP6{w}{g o n cap:Nat}{ca}{tg}{fa}{l}(h:w.heap[g]?=some (.cells ca tg fa))(d:qB0 ca o n=enc l)(c:o+n<=ca.size):
  Sem.run prog (convert 118 9 (.slice (some ⟨g,o,none⟩) n cap)) w=.ok (.string ⟨l.toArray⟩) w:=by
 rw[run_convert_bytes_string w _ _ _ _ _ _ underlying118 underlying5 underlying9];have a:=zB6 (P:=prog) (o:=o) (n:=n) h c;have e:enc l=((l.map (λb=>(b.toNat:Int))).map (.int .u8)).toArray:=by simp[enc,qC0]
 rw[d,e] at a;rw[run_bytesToString w _ _ _ _ a,zN6];simp
theorem jH2(g o n cap h c d:Nat)(a b)(w)(tg th)(ca cb)(fa fb)(f:w.heap[g]?=some (.cells ca tg fa))(j:w.heap[h]?=some (.cells cb th fb))
  (l:qB0 ca o n=enc a) (m:qB0 cb c n=enc b) (i:o+n<=ca.size) (k:c+n<=cb.size):
  Calls prog 249 #[.slice (some ⟨g,o,none⟩) n cap,.slice (some ⟨h,c,none⟩) n d] w λe p=>e=.returned (.bool (a == b))/\p=w:=by
 have q:=xP6 (cap:=cap) f l i;have r:=xP6 (cap:=d) j m k;clear f j l m i k;go_enter func249,ntmps249;go_wp2;go_ret;exact⟨rfl,rfl⟩
theorem kF0(s)(w)(y:s.size<=1000000):
  Calls prog 119 #[.string s] w λe D=>e=.returned (.string s)/\Kp [] w D:=by
 by_cases a:s.size=0
 .have z:s=⟨#[]⟩:=by
   apply ByteArray.ext;exact Array.eq_empty_of_size_eq_zero a
  subst z;clear a y;go_enter func119,ntmps119;go_wp2;go_ret;exact⟨rfl,Kp.refl _ _⟩
 .obtain⟨o,l,B,n,C⟩:=info_parts Tryz.info5;have v:(prog.info? 5).map (·.size)=some 1:=by rw[l];simp[n]
  have t:prog.cellsOf 5=1:=kR
  obtain⟨M,b⟩:=eX (madeCells (Value.int .u8 0).cells (((s.size:Nat):Int).toNat*o.size));have E:M.size=s.size:=by rw[b,size_madeCells,n];simp
  have H:∀ W:World,(Instr.makeSlice 118 (ϊ (s.size:Int)) (ϊ (s.size:Int))).run prog W=.ok (.slice (some ⟨W.heap.size,0,none⟩) s.size s.size) (W.alloc (.cells M 5)):=λW=>by
   have h:=run_make (P:=prog) W 118 5 o (.int .u8 0) underlying118 l B .i64 .i64 (s.size:Int) (s.size:Int) oM oM (by rw[C];omega) oM;rw[<-b] at h;simpa using h
  clear b;have u:=Lib.run_copy_row_string (P:=prog) (w.alloc (.cells M 5)) 118 9 3 5 w.heap.size 0 s.size s.size s M 5 underlying118 v (heap_alloc_new w _) lR oM;obtain⟨Y,c⟩:=eX ((M.toList.take 0++Lib.byteCells s.data.toList++M.toList.drop (0+s.size)).toArray);rw[<-c] at u;have d:Y.toList=Lib.byteCells s.data.toList:=by
   rw[c,List.toList_toArray,List.take_zero,nA,dL (by rw[Array.length_toList];omega),aN]
  have F:Y.size=s.size:=by rw[<-Array.length_toList,d,Lib.byteCells_length,<-Lib.size_eq]
  have f:((w.alloc (.cells M 5)).setRow w.heap.size Y).heap[w.heap.size]?=some (.cells Y 5 (0,0)):=setRow_heap _ _ M _ 5 (0,0) (heap_alloc_new w _);have m:s.data.toList≠[]:=λe=>a (by rw[Lib.size_eq,e];rfl);have r:=Lib.run_unsafeString_row (P:=prog) ((w.alloc (.cells M 5)).setRow w.heap.size Y) 261 3 9 5 underlying261 t w.heap.size Y.size (by unfold World.shape?;rw[f]) s.data.toList m (by rw[<-Lib.size_eq];omega) (by rw[<-Lib.size_eq];omega)
   (λj x A=>Lib.cells_of_row f Y.size j _ (by rw[tL (by rw[Array.length_toList];exact lR),d];simp[Lib.byteCells,A]))
  rw[<-Lib.size_eq] at r;clear c;have g:Below w.heap.size w (w.alloc (.cells M 5)):=(Below.refl _ w).alloc lR _;have i:Below w.heap.size (w.alloc (.cells M 5)) ((w.alloc (.cells M 5)).setRow w.heap.size Y):=⟨rfl,rfl,rfl,sM,λk G=>setRow_other _ _ _ _ oM⟩;have q:=zh (g.trans i);clear g i f m d;go_enter func119,ntmps119;go_wp2;go_ret;exact⟨rfl,Kp.of_below (Lib.below_freeze q (p:=⟨w.heap.size,0,none⟩) lR _) lR⟩
theorem qY5(s)(w)(b:s.size<=1000000):
  Calls prog 75 #[.string s] w λe c=>e=.returned (.string s)/\Kp [] w c:=by
 go_enter func75,ntmps75;go_wp2_with fail;refine (kF0 s w b).mono ?_;rintro e d ⟨rfl,a⟩;go_wp2;go_ret;exact⟨rfl,a⟩
end Go.Proofs.YtdohpenfkdckiaaGreatDoor
