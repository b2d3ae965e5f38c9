import Derived.Test.YtdohpenfkdckiaaGreatDoorJ01
import Derived.Deep.RegionLaw
import Derived.Deep.RegionLawGrows
import Derived.Deep.RegionWith
import Derived.Deep.DeepMust
import Derived.Laws.BitsAllLaws
set_option linter.all false
set_option maxRecDepth 100000
set_option maxHeartbeats 0
namespace Go.Proofs.YtdohpenfkdckiaaGreatDoor
open Go.Proofs.Tryz Go.RowKit
variable {κ:Nat}
def F9(κ n C:Nat)(cache:Value)(calls writes:Int):Obj:=
 .cells #[.slice (some ⟨C,0,none⟩) n κ,cache,.int .i64 calls,.int .i64 writes,.int .i64 0,.int .i64 (-1),.int .i64 0,.int .i64 0] 114
abbrev Fc(n C:Nat)(cache:Value)(calls writes:Int):Obj:=F9 n n C cache calls writes
def DE(a:ϧ):Prop:=∀v∈a.toList,∃x,v=.int .u8 x
def DE.one{a}(h:DE a):∀v∈a.toList,v.oneCell'=true:=λv hv=>by obtain⟨x,rfl⟩:=h v hv;rfl
def Jc{cs}(h:DE cs)(o n:Nat):DE (Am cs o n):=λv a=>h v<|mD<|mT (by simpa [Am] using a)
def Eu{cs p}(h:cs.size=p.size):Cz cs 0 p=p:=by have e:cs.toList.drop p.size=[]:=dL (by simp[h]);simp[Cz,e]
def Tryz.qO8:(prog.info? 5).map (·.size)=some 1:=kR
variable {κ:Nat}
def GO:(prog.info? 117).map (λi=>(i.zero,i.size,i.bytes))=some (some (.agg zeroCells117),129,136):=kR
def EE:zeroCells117.size=129:=kR
def qK2:∀v∈zeroCells117.toList,v.oneCell'=true:=by
 have h:zeroCells117.toList.all (·.oneCell')=true:=kR
 exact List.all_eq_true.1 h
def Lr:(prog.info? 115).map (λi=>(i.zero,i.size,i.bytes))=some (some (.agg zeroCells115),128,128):=kR
def MX:∀v∈zeroCells115.toList,v=.int .u8 0:=by
 have h:zeroCells115.toList=List.replicate 128 (.int .u8 0):=kR
 intro v hv;rw[h]at hv;exact List.eq_of_mem_replicate hv
def Kv:zeroCells115.size=128:=kR
def P9(m:Nat)(w)(h:m<1000)(k:Int)(g:0<=k)(f:k % 1000=m):Ω 41 #[ϊ k] w λe d=>e=ϱ (ϖ (w.heap.size+1))/\∃Z:ϧ,Z.size=m*128/\(∀v∈Z.toList,v=.int .u8 0)/\d=(w.alloc (ϲ Z 115)).alloc (Fc m w.heap.size (.slice none 0 0) 0 0):=by
 go_enter func41,ntmps41;have:¬k<0:=oM
 go_wp2;let⟨Z,a,b,c⟩:=QO (P:=prog) (.agg zeroCells115) (.int .u8 0) 128 128 underlying111 Lr MX (by simp[Value.cells,Kv]) .i64 .i64 m oM oM w;rw[c];go_wp2;go_ret;exact⟨rfl,Z,a,b,rfl⟩
def AT(l:List UInt8):List Value:=l.map (fun b=>.int .u8 (b.toNat:Int))
def enc(l:List UInt8):Array Value:=(AT l).toArray
def H8(l):(AT l).length=l.length:=by simp[AT]
def CF(l):(enc l).size=l.length:=by simp[enc,AT]
def Ds(l):DE (enc l):=by intro v a;simp[enc,AT]at a;obtain⟨b,_,rfl⟩:=a;exact⟨_,rfl⟩
def Vs(a b):AT (a++b)=AT a++AT b:=by simp[AT]
def Ez(l)(o n:Nat):Am (enc l) o n=enc ((l.drop o).take n):=by simp[Am,enc,AT,List.map_take,List.map_drop]
def Lz(l p)(o:Nat):Cz (enc l) o (enc p)=enc (l.take o++p++l.drop (o+p.length)):=by simp[Cz,enc,AT,List.map_take,List.map_drop]
def Ll(l:ϣ)(s:Ϧ):(l.map (λb=>(b.toNat:Int))).foldl (λr n=>r.push (UInt8.ofNat n.toNat)) s=⟨(s.data.toList++l).toArray⟩:=by induction l generalizing s with|nil=>simp|cons b l ih=>rw[List.map_cons,List.foldl_cons,ih];simp[ByteArray.push]
def YI(w)(k:Int)(f:k<0):Ω 41 #[ϊ k] w λe d=>e=ϱ (ϖ (w.heap.size+1))/\∃Z:ϧ,Z.size=0*128/\(∀v∈Z.toList,v=.int .u8 0)/\d=(w.alloc (ϲ Z 115)).alloc (Fc 0 w.heap.size (.slice none 0 0) 0 0):=by go_enter func41,ntmps41;go_wp2;let⟨Z,b,c,a⟩:=QO (P:=prog) (.agg zeroCells115) (.int .u8 0) 128 128 underlying111 Lr MX (by simp[Value.cells,Kv]) .i64 .i64 0 oM oM w;simp[Int.ofNat_zero,Int.natCast_zero]at a;rw[a];go_wp2;go_ret;exact⟨rfl,Z,b,c,rfl⟩
def qB0{w}{c:Nat}{v}{k:Nat}{l}(h:w.ownsRow c 5 1 v k (AT l)):Sem.run prog (convert 118 9 v) w=.ok (ϕ ⟨l.toArray⟩) w:=by let⟨j,f⟩:=h;rw[H8]at j;rcases f with⟨rfl,r⟩|⟨g,q,d,rfl,_,i,s,_,t,p⟩;have:l=[]:=List.eq_nil_of_length_eq_zero oM;subst this;rw[run_convert_bytes_string w _ _ _ _ _ _ underlying118 underlying5 underlying9];rfl;rw[run_convert_bytes_string w _ _ _ _ _ _ underlying118 underlying5 underlying9];(have m:Am d 0 k=((l.map λb=>(b.toNat:Int)).map<|.int .u8).toArray:=by (have e:(l.map λb=>(b.toNat:Int)).map (Value.int .u8)=AT l:=by simp[AT]);rw[e,<-p];simp[Am]);have a:=IM (P:=prog) (o:=0) (n:=k) i oM;rw[m]at a;rw[run_bytesToString w _ _ _ _ a,Ll];simp
variable {κ:Nat}
def DK(A n:Nat):Obj:=.cells #[.iface 27 (.pointer (some ⟨A,0,none⟩)),.int .i64 n] 263
def ρ(l:List UInt8)(i:Nat):List UInt8:=(l.drop (i*128)).take 128
def Ec:zeroCells288.size=128:=kR
variable {κ:Nat}
def D8{w:Ϣ}{b c:Nat}{e:Ϯ}{d:Nat}{v:Value}{n:Nat}{f:Ϩ}(h:w.ownsRow b e d v n f)(m:c<=b):w.ownsRow c e d v n f:=by let⟨k,a⟩:=h;refine⟨k,?_⟩;rcases a with a|⟨g,i,j,l,o,r⟩;exact .inl a;exact .inr ⟨g,i,j,l,oM,r⟩
def Wu{w:Ϣ}{g:Nat}{c:ϧ}{e:Ϯ}(h:w.heap[g]?=some (ϲ c e))(o:Nat):(w.freeze (ϰ g o) 1).heap[g]?=some (ϲ c e (o,o+1)):=by simp[World.freeze,jN,h]
def OT{w:Ϣ}{g k:Nat}(a:k≠g)(o:Nat):(w.freeze (ϰ g o) 1).heap[k]?=w.heap[k]?:=by have:g≠k:=λe=>a e.symm;simp[World.freeze,jN,this]
def Below.freeze{B:Nat}{a w}(h:Below B a w){g:Nat}(c:B<=g)(o:Nat):Below B a (w.freeze (ϰ g o) 1):=
 ⟨h.os,h.tape,h.output,by have:=h.size;simp[World.freeze];omega,λk b=>(OT oM o).trans<|h.block k b⟩
def qA6{w}{g l a:Nat}{c}{e}(h:w.heap[g]?=some (ϲ c e)):Sem.run prog (convert 118 118 (.slice (some (ϰ g 0)) l a)) w=.ok (.slice (some (ϰ g 0)) l a) (w.freeze (ϰ g c.size) 1):=by
 have b:w.shape? g=some (e,c.size):=by simp[World.shape?,h]
 simp[convert,cO underlying118,cO underlying5,markStringish,b]
def Tt(g k:Nat)(c:List Int)(n:Int)(m:Nat)(w)(O:k<=1000)(G:c.length=k)(K:m<=100)(L:1<=m)(F:0<=n) (t:∀j,j<k->w.cell? (ϰ g j)=some (.int .u8 (c.getD j 0))):Ω 250 #[.slice (some (ϰ g 0)) k k,.int .u64 n,ϊ m] w λe A=>∃d,e=ϱ d/\A.ownsRow w.heap.size 5 1 d (k+m) (Ax (c++AB m n))/\Below w.heap.size w A:=by let⟨i0,hi,hz0,hz1,hz2⟩:=bF Tryz.qO0;have D:∀j,j<k->g<w.heap.size:=λj v=>World.block_lt_of_cell? w _<|t j v;go_enter func250,ntmps250;go_wp2;go_loopw [0,1,8] (λs q i wr=>∃(j:Nat)(d:Value)(a:Int),j<=m/\i=.int .i64 j/\q=.int .u64 a/\a=n / (256:Int) ^ j/\0<=a/\a<=n/\s=d/\((j=0/\d=ϑ g 0 k k/\w=wr)\/(1<=j/\wr.ownsRow w.heap.size 5 1 d (k+j) (Ax<|c++AB j n)))/\Below w.heap.size w wr) λ_ _ i _=>m-(intOf i).toNat;(case atStart=>exact⟨0,_,n,Nat.zero_le _,rfl,rfl,sM,F,Int.le_refl _,rfl,.inl ⟨rfl,rfl,rfl⟩,Below.refl _ _⟩);case round=>obtain⟨j,d,a,v,rfl,rfl,y,M,N,rfl,C,f⟩:=hrel;have h:=zh y;clear y;rcases C with⟨rfl,rfl,rfl⟩|⟨I,p⟩;(.have E:0<m:=oM;(have B:Hid (∀b,(some ((ϰ g 0):Addr))=some b->∀j u,(Ax c)[j]?=some u->(w.alloc<|ϲ #[.int .u8<|a % 256] 5).cell? (b.add j)=some u):=by intro b hb j u hu;cases hb;rw[Cp,cD];(have x:j<k:=by have:=(dH.1 hu).1;simp[Ax]at this;omega);rw[World.cell?_alloc_past _ _ _<|D j x,t j x];simp[Ax,List.getElem?_eq_getElem<|show j<c.length by omega]at hu;simp[dX,List.getElem?_eq_getElem<|show j<c.length by omega,hu]);go_wp2_with (at_builtin;go_must (refine wpList_append_grows _ rfl _ _ 118 rfl 5 i0 (.int .u8 0) 1 1 underlying118 hi hz0 hz1 hz2 rfl dC (some<|ϰ g 0) k k (Ax c) rfl sM (by simp[Ax,G]) B (ϰ w.heap.size 0) 1 1 [.int .u8<|a % 256] rfl rfl (cell_one_new _ _ _) (by simp[Value.oneCell']) oM (by unfold maxLen;omega) oM ?_);intro r H z o);refine⟨⟨1,r,a / 256,oM,rfl,rfl,?_,oM,oM,rfl,.inr ⟨aM _,?_⟩,?_⟩,iO⟩;rw[h.out];simp;(have l:Ax (c++AB 1 n)=Ax c++[.int .u8<|a % 256]:=by rw[h.out];simp[Ax,AB]);rw[l];exact D8 z sM;exact(f.alloc (aM _) _).grown o sM sM);by_cases E:j<m;(.go_wp2_with (at_builtin;refine bK _ rfl _ _ 118 rfl w.heap.size 5 i0 (.int .u8 0) 1 1 underlying118 hi hz0 hz1 hz2 rfl dC _ _ _ rfl (p.alloc _) (ϰ wr.heap.size 0) 1 1 [.int .u8<|a % 256] rfl rfl (cell_one_new _ _ _) (by simp[Value.oneCell']) (by unfold maxLen;omega) oM (by have:=f.size;simp;omega) ?_;intro r H z o _);refine⟨⟨j+1,r,a / 256,oM,by go_num,rfl,?_,oM,oM,rfl,.inr ⟨oM,?_⟩,?_⟩,iO⟩;rw[h.out,gB (by exact Int.pow_nonneg dC),iH];(have l:Ax (c++AB (j+1) n)=Ax (c++AB j n)++[.int .u8<|a % 256]:=by rw[LP,<-h.out];simp[Ax]);rwa[l];exact(f.alloc (oW f.size) _).grown o (by have:=f.size;simp;omega)<|qL8 p);go_wp2;go_ret;have e:j=m:=oM;subst e;exact⟨_,rfl,p,f⟩
def CZ:List Int:=[115,104,97,100,111,119]
def CL(N rb rs:Int):List Int:=CZ++AB 2 rb++AB 8 N++AB 8 rs
def B0(N rb rs:Int):List Int:=CL N rb rs++AB 8 (A9 (CL N rb rs))
def FF(a:List Int):0<=A9 a:=by unfold A9;suffices h:∀s:Int,0<=s->0<=a.foldl CY s from h _ dC;induction a with|nil=>intro s b;simpa using b|cons x a ih=>intro s b;rw[List.foldl_cons];apply ih;simp[CY,IntKind.wrap_u64];exact Int.emod_nonneg _ dC
def Mt(N a b:Int):(CL N a b).length=24:=by simp[CL,CZ,CK]
def Mu(N a b:Int):(B0 N a b).length=32:=by simp[B0,Mt,CK]
def Zi{w:Ϣ}{c:Nat}{v:Value}{k:Nat}{a:List Int}(h:w.ownsRow c 5 1 v (k+1) (Ax a)):∃g b,v=.slice (some (ϰ g 0)) (k+1) b/\c<=g/\a.length=k+1/\∀j,j<k+1->w.cell? (ϰ g (0+j))=some (.int .u8 (a.getD j 0)):=by let⟨hl,h2⟩:=h;rcases h2 with⟨_,f⟩|⟨g,b,d,rfl,i,l,o,_,q,m⟩;cases f;(have n:a.length=k+1:=by simpa [Ax] using hl);refine⟨g,b,rfl,i,n,λj p=>?_⟩;rw[Y l];(have e:(d.toList.take<|(k+1)*1)[j]?=(Ax a)[j]?:=by rw[m]);rw[List.getElem?_take,if_pos oM]at e;rw[Nat.zero_add,<-Array.getElem?_toList,e];simp[Ax,List.getD_eq_getElem?_getD,gQ<|show j<a.length by omega]
def QY(N a b:Int)(w)(z:0<=N)(F:0<=a)(M:a<=65535)(I:0<=b):Ω 207 #[.agg #[.int .u64 N,ϊ a,.int .u64 b]] w λe q=>∃v,e=ϱ v/\q.ownsRow w.heap.size 5 1 v 32 (Ax (B0 N a b))/\Below w.heap.size w q:=by go_enter func207,ntmps207;go_wp2_with fail;have d:=φ (w.alloc<|ϲ #[.int .u64 N,ϊ a,.int .u64 b] 166)<|ϲ #[.int .u8 115,.int .u8 104,.int .u8 97,.int .u8 100,.int .u8 111,.int .u8 119] 5;rw[show(w.alloc<|ϲ #[.int .u64 N,ϊ a,.int .u64 b] 166).heap.size=w.heap.size+1 from by simp]at d;rw[qA6 d];obtain⟨c,p,y,h,A⟩:∃c,c=((w.alloc<|ϲ #[.int .u64 N,ϊ a,.int .u64 b] 166).alloc<|ϲ #[.int .u8 115,.int .u8 104,.int .u8 97,.int .u8 100,.int .u8 111,.int .u8 119] 5).freeze ⟨w.heap.size+1,#[Value.int .u8 115,Value.int .u8 104,Value.int .u8 97,Value.int .u8 100,Value.int .u8 111,Value.int .u8 119].size,none⟩ 1/\Below w.heap.size w c/\Ϙ c w.heap.size (ϲ #[.int .u64 N,ϊ a,.int .u64 b] 166)/\(∀j,j<6->c.cell? (ϰ (w.heap.size+1) j)=some (.int .u8<|CZ.getD j 0)):=⟨_,rfl,Below.freeze (((Below.refl _ _).alloc lR _).alloc sM _) oM _,(OT oM _).trans<|ψ _<|φ _ _,λj hj=>by rw[Y<|Wu d _];match j,hj with|0,_=>rfl|1,_=>rfl|2,_=>rfl|3,_=>rfl|4,_=>rfl|5,_=>rfl⟩;rw[<-p];clear p d;(have K:w.heap.size+1<=c.heap.size:=by have:=U h;omega);have u:=Y h 1;simp at u;go_wp2_with fail;apply(Tt (w.heap.size+1) 6 CZ a 2 c oM rfl oM oM F A).mono;rintro e r ⟨P,rfl,B,f⟩;have o:=(f.block w.heap.size oM).trans h;have:=f.size;have l:=Y o 0;simp at l;go_wp2_with fail;apply(KU _ (w.heap.size+1) (6+2) (CZ++AB 2 a) N 8 r oM oM z oM<|D8 B K).mono;rintro e s ⟨Q,rfl,C,hB3⟩;have:=hB3.size;have m:=Y ((hB3.block w.heap.size oM).trans o) 2;simp at m;clear l;go_wp2_with fail;apply(KU _ (w.heap.size+1) (6+2+8) (CZ++AB 2 a++AB 8 N) b 8 s oM oM I oM C).mono;rintro e t ⟨R,rfl,i,n⟩;have:=n.size;clear m;have E:Ax (CZ++AB 2 a++AB 8 N++AB 8 b)=Ax (CL N a b):=rfl;rw[E]at i;obtain⟨g,x,rfl,O,H,G⟩:=Zi (k:=23) i;go_wp2_with fail;apply mR<|MH g 0 24 x (CL N a b) t H oM G;rintro T rfl;go_wp2_with fail;apply(KU _ (w.heap.size+1) 24 (CL N a b) (A9<|CL N a b) 8 _ oM oM (FF _) oM i).mono;rintro e L ⟨S,rfl,D,hB6⟩;go_wp2;go_ret;refine⟨_,rfl,D8 D oM,y.trans<|((f.mono oM).trans<|hB3.mono oM).trans<|(n.mono oM).trans<|hB6.mono oM⟩
def Cy(N rb rs:Int):Value:=.agg #[.int .u64 N,.int .i64 rb,.int .u64 rs]
def Mj(N a b:Int)(w)(d:0<=N):Ω 209 #[.agg #[.int .u64 N,ϊ a,.int .u64 b]] w λe c=>e=ϱ (ϊ (N % 2))/\Below w.heap.size w c:=by go_enter func209,ntmps209;go_wp2;go_ret;exact⟨rfl,(Below.refl _ _).alloc lR _⟩
def QP{w}{g o n cap:Nat}{ca}{tg}{fa}{l}(h:w.heap[g]?=some (ϲ ca tg fa))(d:Am ca o n=enc l)(c:o+n<=ca.size):Sem.run prog (convert 118 9 (.slice (some (ϰ g o)) n cap)) w=.ok (ϕ ⟨l.toArray⟩) w:=by
 rw[run_convert_bytes_string w _ _ _ _ _ _ underlying118 underlying5 underlying9];have a:=IM (P:=prog) (o:=o) (n:=n) h c;have e:enc l=((l.map λb=>(b.toNat:Int)).map<|.int .u8).toArray:=by simp[enc,AT]
 rw[d,e]at a;rw[run_bytesToString w _ _ _ _ a,Ll];simp
def VF(g o n cap h c d:Nat)(a b)(w)(tg th)(ca cb)(fa fb)(f:w.heap[g]?=some (ϲ ca tg fa))(j:w.heap[h]?=some (ϲ cb th fb)) (l:Am ca o n=enc a) (m:Am cb c n=enc b) (i:o+n<=ca.size) (k:c+n<=cb.size):Ω 249 #[.slice (some (ϰ g o)) n cap,.slice (some (ϰ h c)) n d] w λe p=>e=ϱ (ϐ (a == b))/\p=w:=by have:=QP (cap:=cap) f l i;have:=QP (cap:=d) j m k;go_enter func249,ntmps249;go_wp2;go_ret;exact⟨rfl,rfl⟩
def DS:List Int→Int
 | []=>0
 | x::xs=>x+256*DS xs
def L6:∀a:List Int,(∀x∈a,0<=x/\x<256)->0<=DS a/\DS a<(256:Int) ^ a.length
 |[],_=>by simp[DS]|x::a,h=>by have:=h x sM;have:=L6 a λy b=>h y (by simp[b]);simp[DS,lC,iH];omega
def Y9(n x:Int)(g:0<=n)(h:n<72057594037927936)(c:0<=x)(i:x<256):bits BinOp.or .u64 (IntKind.u64.wrap (n*256)) (IntKind.u64.wrap x)=x+256*n:=by
 have d:IntKind.u64.wrap (n*256)=n*256:=by simp[cJ];omega
 have e:IntKind.u64.wrap x=x:=by simp[cJ];omega
 rw[d,e,u64_or _ _ oM oM c oM];obtain⟨a,rfl⟩:=Int.eq_ofNat_of_zero_le g;obtain⟨b,rfl⟩:=Int.eq_ofNat_of_zero_le c;have f:((a:Int)*256).toNat=a <<< 8:=by rw[Nat.shiftLeft_eq];omega
 rw[f,dD,<-Nat.shiftLeft_add_eq_or_of_lt oM,Nat.shiftLeft_eq];omega
def JW:∀a:List Int,(∀x∈a,0<=x/\x<256)->a.length<=8->Cm a=DS a
 |[],_,_=>rfl|x::a,h,hl=>by have c:=h x sM;have b:∀y∈a,0<=y/\y<256:=λy hy=>h y (by simp[hy]);have f:=L6 a b;(have:(256:Int) ^ a.length<=256 ^ 7:=by (have d:a.length<=7:=by simp at hl;omega);(have e:∀k:Nat,(256:Int) ^ k=((256 ^ k:Nat):Int):=λk=>by rw[Int.natCast_pow];rfl);rw[e,e];exact Int.ofNat_le.2<|gY dC d);have:(256:Int) ^ 7=72057594037927936:=dC;have g:=JW a b (by simp at hl;omega);show bits BinOp.or .u64 (IntKind.u64.wrap<|Cm a*256) (IntKind.u64.wrap x)=_;rw[g,Y9 _ _ f.1 oM c.1 c.2];rfl
def DH:∀(k:Nat)(n:Int),∀x∈AB k n,0<=x/\x<256
 |0,_,_,h=>by simp[AB]at h|k+1,n,x,h=>by simp[AB,mC]at h;rcases h with rfl|h;omega;exact DH k _ x h
def Qj:∀(k:Nat)(n:Int),0<=n->n<(256:Int) ^ k->DS (AB k n)=n
 |0,n,h0,h1=>by simp[AB,DS]at *;omega|k+1,n,h0,h1=>by rw[iH]at h1;(have a:n / 256<(256:Int) ^ k:=by generalize (256:Int) ^ k=q at *;omega);rw[AB,DS,Qj k _ oM a];omega
def EK(k:Nat)(n:Int)(c:k<=8)(a:0<=n)(b:n<(256:Int) ^ k):Cm (AB k n)=n:=by rw[JW _ (DH k n) (by rwa[CK]),Qj k n a b]
variable {κ:Nat}
def Bq(l:List UInt8):List Int:=l.map (fun b=>(b.toNat:Int))
def ι(xs:List Int):List UInt8:=xs.map (fun x=>UInt8.ofNat x.toNat)
def GI(l):(Bq l).length=l.length:=by simp[Bq]
def Ji(l):∀x∈Bq l,0<=x/\x<256:=by intro x hx;simp[Bq]at hx;obtain⟨b,_,rfl⟩:=hx;have:=b.toNat_lt;omega
def DL(a:List Int)(h:∀x∈a,0<=x/\x<256):Bq (ι a)=a:=by simp only[Bq,ι,jG];(conv=>rhs;rw[<-List.map_id a]);apply fQ;intro x b;have:=h x b;simp[iT];omega
def Vt(l):AT l=Ax (Bq l):=by simp[AT,Ax,Bq]
def Kn(a:List Int)(h:∀x∈a,0<=x/\x<256):Ax a=AT (ι a):=by rw[Vt,DL a h]
def QW(N b c:Int):∀x∈B0 N b c,0<=x/\x<256:=by intro x a;simp only[B0,CL,aH]at a;rcases a with (((a|a)|a)|a)|a;simp[CZ]at a;omega;exact DH _ _ x a;exact DH _ _ x a;exact DH _ _ x a;exact DH _ _ x a
def Qv{w:Ϣ}{f:Nat}{v:Value}{N c d:Int}(h:w.ownsRow f 5 1 v 32 (Ax (B0 N c d))):∃g b a,v=.slice (some (ϰ g 0)) 32 b/\w.heap[g]?=some (ϲ a 5)/\32<=a.size/\Am a 0 32=enc (ι (B0 N c d)):=by let⟨_,h2⟩:=h;rcases h2 with⟨_,i⟩|⟨g,b,a,rfl,_,j,k,_,l,e⟩;cases i;refine⟨g,b,a,rfl,j,oM,?_⟩;rw[Kn _<|QW N c d]at e;simp[Am,enc,<-e]
def YR(G a n b:Nat)(bl)(t)(w)(c:w.heap[G]?=some (ϲ (enc bl) t))(k:a+n<=bl.length)(d:n<=1000000):Ω 248 #[.slice (some (ϰ G a)) n b] w λe i=>e=ϱ (.int .u64 (Cm (Bq ((bl.drop a).take n))))/\i=w:=by
 have h:((bl.drop a).take n).length=n:=sO
 refine IF G a n b _ w (by rw[GI,h]) d λj f=>?_;rw[Y c,<-Gx (cs:=enc bl) f,Ez];have g:j<((bl.drop a).take n).length:=oM
 generalize (bl.drop a).take n=s at *;simp[enc,AT,Bq,dX,gQ g]
def G7{P:Program}{a:Func}{p u:Tmp}{ty}(h:a.results=#[.cell p ty,.tmp u])(tmps)(w)(g:Nat)(t)(cs)(fr)(d:TypeDesc) (f:tmps.getD p undef=ϖ g) (c:w.heap[g]?=some (ϲ cs t fr)) (i:P.underlying ty=some d) (b:(match d with | .struct _ | .array _ _=>true | _=>false)=true) (e:(P.info? ty).map (·.size)=some cs.size):(results a tmps).run P w=.ok (.tuple #[.agg cs,tmps.getD u undef]) w:=by rw[results_cell_tmp h,f];simp[asAddr,run_loadVar_row w g t ty cs fr d c i b e]
def DW{P:Program}{c:Array Oper}{d:List Oper}{b:Option Tmp}{ty}{j:String}{e:Array Edge}{a:Act}{w w'}{Q:Exit->Act->ϯ}{s x:Operand}{t}{vs vx v'}(g:a.eval s=vs)(i:a.eval x=vx) (f:Sem.run P (Builtin.append_ #[t,t] ty #[vs,vx]) w=.ok v' w') (h:wpList P c Q d (a.put b v') w'):wpList P c Q (⟨b,.call { callee:=.builtin .append,args:=#[s,x],argTypes:=#[t,t] },ty,j,e,none⟩::d) a w:=by refine wpList_plain rfl λK hK=>?_;unfold Oper.wp execOp;simp[resolve,invoke,builtin,bO,dA,aZ,dN,bE,cV,g,i,f];exact hK _ _ h
def AS(w:Ϣ)(v:Value)(a:List KV):Prop:=Ai w 284 2 v a.length (Aj a)
def B9(w:Ϣ)(b:Nat)(v:Value)(a:List KV):Prop:=w.ownsRow b 284 2 v a.length (Aj a)
def WW:(prog.info? 284).map (λi=>(i.zero,i.size,i.bytes))=some (some (.agg #[ϕ ⟨#[]⟩,ϕ ⟨#[]⟩]),2,32):=kR
def AS.qK4{w w'}{v}{ps}{S}(h:AS w v ps)(hK:Kp S w w')(a:χ w S [284]):AS w' v ps:=Ai.qK4 h hK a
def AS.qK5{w w'}{v}{ps}(h:AS w v ps)(hK:Kp [] w w'):AS w' v ps:=Ai.qK5 h hK
def AS.nil(w):AS w (.slice none 0 0) []:=⟨rfl,.inl ⟨rfl,none,0,rfl,λ_=>rfl⟩⟩
def B9.nil(w)(a:Nat):B9 w a (.slice none 0 0) []:=wN _ _ _ _
def B9.sp{w}{e:Nat}{v}{ps}(h:B9 w e v ps):AS w v ps:=by refine⟨h.1,?_⟩;rcases h.2 with⟨i,a⟩|⟨g,c,f,a,o,k,l,p,q,m⟩;exact .inl ⟨a,none,0,by rw[i],λ_=>rfl⟩;by_cases d:ps.length=0;exact .inl ⟨d,some (ϰ g 0),c,by rw[a,d],sM⟩;refine .inr ⟨g,0,c,f,(0,0),a,oM,l,k,λj u b=>?_⟩;(have n:j<ps.length*2:=by have:=(gS b).1;rw[Fk]at this;exact this);rw[<-m,cU n]at b;simpa using b
def B9.alloc{w}{a:Nat}{v}{ps}(h:B9 w a v ps)(o):B9 (w.alloc o) a v ps:=World.ownsRow.alloc h o
def B9.form{w}{a:Nat}{v}{ps}(h:B9 w a v ps):∃b c,v=.slice b ps.length c:=by rcases h.2 with⟨h0,h1⟩|⟨g,cap,cur,h1,h2⟩;exact⟨none,0,by rw[h0,h1]⟩;exact⟨_,cap,h1⟩
def AS.form{w}{v}{ps}(h:AS w v ps):∃b c,v=.slice b ps.length c:=by rcases h.val with⟨h0,b,c,h1,_⟩|⟨g,off,cap,cur,fr,h1,_⟩;rw[h0];exact⟨b,c,h1⟩;exact⟨_,cap,h1⟩
def AS.at{w}{v}{ps}(h:AS w v ps)(f:1<=ps.length):∃g b c a d,v=.slice (some (ϰ g b)) ps.length c/\ps.length<=c/\w.heap[g]?=some (ϲ a 284 d)/\∀i (h:i<ps.length),a[b+i*2]?=some (ϕ ps[i].k)/\a[b+i*2+1]?=some (ϕ ps[i].v):=by rcases h.val with⟨h0,_⟩|⟨g,b,c,a,d,h1,h2,h3,h4,h5⟩;omega;exact⟨g,b,c,a,d,h1,h3,h4,λi e=>⟨h5 _ _ (FL e).1,h5 _ _ (FL e).2⟩⟩
def ZB(ps)(p):Aj (ps++[p])=Aj ps++[ϕ p.k,ϕ p.v]:=by simp[Aj,DT]
def B9.app{w}{b:Nat}{v}{ps}(h:B9 w b v ps)(g:Nat)(p)(ty)(k:ps.length<=1000000)(e:w.heap[g]?=some (ϲ #[ϕ p.k,ϕ p.v] 284))(d:b<=w.heap.size):∃c a,Sem.run prog (Builtin.append_ #[124,124] ty #[v,.slice (some (ϰ g 0)) 1 1]) w=.ok c a/\B9 a b c (ps++[p])/\w.grownBy a v.ownBlock:=by let⟨i0,hi,hz0,hz1,hz2⟩:=bF WW;let⟨c,a,f,l,i,m⟩:=dR (P:=prog) w b 124 ty 284 i0 _ 2 32 underlying124 hi hz0 hz1 hz2 rfl dC v ps.length _ h (ϰ g 0) 1 1 [ϕ p.k,ϕ p.v] rfl (λj v hv=>by rw[Cp,Y e];simpa using hv) (by simp[Value.oneCell']) (by unfold maxLen;omega) oM d;refine⟨c,a,f,?_,i⟩;unfold B9;rwa[ZB,List.length_append]
def B9.low{w}{a:Nat}{v}{ps}(h:B9 w a v ps):∀k,v.ownBlock=some k->a<=k:=λk hk=>(World.ownsRow.lt h k hk).1
def CD(w:Ϣ)(v:Value)(a:List KV):Prop:=Ai w 42 2 v a.length (Aj a)
def Bm(w:Ϣ)(b:Nat)(v:Value)(a:List KV):Prop:=w.ownsRow b 42 2 v a.length (Aj a)
def Ls:(prog.info? 42).map (λi=>(i.zero,i.size,i.bytes))=some (some (.agg #[ϕ ⟨#[]⟩,ϕ ⟨#[]⟩]),2,32):=kR
def CD.qK4{w w'}{v}{ps}{S}(h:CD w v ps)(hK:Kp S w w')(a:χ w S [42]):CD w' v ps:=Ai.qK4 h hK a
def CD.qK5{w w'}{v}{ps}(h:CD w v ps)(hK:Kp [] w w'):CD w' v ps:=Ai.qK5 h hK
def CD.nil(w):CD w (.slice none 0 0) []:=⟨rfl,.inl ⟨rfl,none,0,rfl,λ_=>rfl⟩⟩
def Bm.nil(w)(a:Nat):Bm w a (.slice none 0 0) []:=wN _ _ _ _
def Bm.sp{w}{e:Nat}{v}{ps}(h:Bm w e v ps):CD w v ps:=by refine⟨h.1,?_⟩;rcases h.2 with⟨i,a⟩|⟨g,c,f,a,o,k,l,p,q,m⟩;exact .inl ⟨a,none,0,by rw[i],λ_=>rfl⟩;by_cases d:ps.length=0;exact .inl ⟨d,some (ϰ g 0),c,by rw[a,d],sM⟩;refine .inr ⟨g,0,c,f,(0,0),a,oM,l,k,λj u b=>?_⟩;(have n:j<ps.length*2:=by have:=(gS b).1;rw[Fk]at this;exact this);rw[<-m,cU n]at b;simpa using b
def Bm.alloc{w}{a:Nat}{v}{ps}(h:Bm w a v ps)(o):Bm (w.alloc o) a v ps:=World.ownsRow.alloc h o
def Bm.form{w}{a:Nat}{v}{ps}(h:Bm w a v ps):∃b c,v=.slice b ps.length c:=by rcases h.2 with⟨h0,h1⟩|⟨g,cap,cur,h1,h2⟩;exact⟨none,0,by rw[h0,h1]⟩;exact⟨_,cap,h1⟩
def CD.form{w}{v}{ps}(h:CD w v ps):∃b c,v=.slice b ps.length c:=by rcases h.val with⟨h0,b,c,h1,_⟩|⟨g,off,cap,cur,fr,h1,_⟩;rw[h0];exact⟨b,c,h1⟩;exact⟨_,cap,h1⟩
def CD.at{w}{v}{ps}(h:CD w v ps)(f:1<=ps.length):∃g b c a d,v=.slice (some (ϰ g b)) ps.length c/\ps.length<=c/\w.heap[g]?=some (ϲ a 42 d)/\∀i (h:i<ps.length),a[b+i*2]?=some (ϕ ps[i].k)/\a[b+i*2+1]?=some (ϕ ps[i].v):=by rcases h.val with⟨h0,_⟩|⟨g,b,c,a,d,h1,h2,h3,h4,h5⟩;omega;exact⟨g,b,c,a,d,h1,h3,h4,λi e=>⟨h5 _ _ (FL e).1,h5 _ _ (FL e).2⟩⟩
def ZA(ps)(p):Aj (ps++[p])=Aj ps++[ϕ p.k,ϕ p.v]:=by simp[Aj,DT]
def Bm.low{w}{a:Nat}{v}{ps}(h:Bm w a v ps):∀k,v.ownBlock=some k->a<=k:=λk hk=>(World.ownsRow.lt h k hk).1
def BG(p:KV)(st:List KV×Bool)(q:KV):List KV×Bool:=
 let s1:=if !st.2 && !kl q.k p.k then(st.1++[p],true) else st
 if q.k=p.k then s1 else(s1.1++[q],s1.2)
def Kq(p:KV):∀(l a:List KV),l.foldl (BG p) (a,true)=(a++l.filter (λq=>!decide (q.k=p.k)),true)
 |[],a=>by simp|q::l,a=>by rw[cW];by_cases h:q.k=p.k;simp[BG,h,Kq p l a];simp[BG,h,Kq p l<|a++[q]]
def Ro(p:KV):∀(l a:List KV),(if (l.foldl (BG p) (a,false)).2 then(l.foldl (BG p) (a,false)).1 else(l.foldl (BG p) (a,false)).1++[p])=a++ins p l
 |[],a=>by simp[ins]|q::l,a=>by rw[cW];by_cases h:kl q.k p.k=true;have d:=CO h;(have e:BG p (a,false) q=(a++[q],false):=by simp[BG,h,d]);rw[e,Ro p l<|a++[q]];simp[ins,h];(have b:kl q.k p.k=false:=by simpa using h);by_cases c:q.k=p.k;(have e:BG p (a,false) q=(a++[p],true):=by simp[BG,b,c,DQ]);rw[e,Kq];simp[ins,b,c,DQ];(have e:BG p (a,false) q=(a++[p]++[q],true):=by simp[BG,b,c]);rw[e,Kq];simp[ins,b,c]
def Rp(p:KV):∀(l:List KV)(a:List KV×Bool),(l.foldl (BG p) a).1.length<=a.1.length+2*l.length
 |[],a=>by simp|q::l,a=>by rw[cW];have:=Rp p l<|BG p a q;(have:(BG p a q).1.length<=a.1.length+2:=by unfold BG;dsimp only;split<;>split<;>simp<;>omega);simp[lC];omega
def Wk{c a:Type}(f:a->c->a)(b:a)(l:List c)(j:Nat)(h:j<l.length):(l.take (j+1)).foldl f b=f ((l.take j).foldl f b) l[j]:=by rw[tA h,cK];rfl
def DZ(a b:Ϧ):(a.toList == b.toList)=decide (a=b):=IN a b
