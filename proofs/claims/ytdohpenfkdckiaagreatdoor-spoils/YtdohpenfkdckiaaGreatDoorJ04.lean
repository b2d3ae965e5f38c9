import Derived.Test.YtdohpenfkdckiaaGreatDoorJ01
import Derived.Laws.Strings
import Derived.Laws.Cover1
set_option linter.all false
set_option maxRecDepth 100000
set_option maxHeartbeats 20000000
namespace Go.Proofs.YtdohpenfkdckiaaGreatDoor
open Go.Proofs.Tryz
def kl(a b:ByteArray):Bool:=Op.bytesLess a.toList b.toList
theorem xI9:∀ (x y:List UInt8),Op.bytesLess x y=decide (x<y)
 | [],[]=>by simp[Op.bytesLess]
 | _::_,[]=>by simp[Op.bytesLess]
 | [],_::_=>by simp[Op.bytesLess]
 | a::x,b::y=>by
  rw[Op.bytesLess,xI9 x y];simp only[List.cons_lt_cons_iff];by_cases c:a<b<;>by_cases d:a=b<;>by_cases e:x<y<;>simp[c,d,e]
theorem zY8{a b:ByteArray}(h:a.toList=b.toList):a=b:=by
 rw[ByteArray.toList_eq,ByteArray.toList_eq] at h;cases a;cases b;simp only[ByteArray.mk.injEq];exact Array.toList_inj.1 h
theorem zB7(a b:ByteArray):(a.toList == b.toList)=decide (a=b):=by
 by_cases h:a=b
 .simp[h]
 .have:¬a.toList=b.toList:=λe=>h (zY8 e);simp[h,this]
theorem zG5(a b):kl a b=true↔a.toList<b.toList:=by unfold kl;rw[xI9];simp
theorem qW1(a b):kl a b=false↔b.toList<=a.toList:=by
 rw[<-Bool.not_eq_true,zG5];exact List.not_lt
theorem qO5(a):kl a a=false:=(qW1 a a).2 (List.le_refl _)
theorem qO6{a b c}(h:kl a b=true)(k:kl b c=true):kl a c=true:=by
 rw[zG5] at *;exact List.lt_trans h k
theorem qQ7{a b}(h:kl a b=true):kl b a=false:=by
 rw[zG5] at h;rw[qW1];exact List.le_of_lt h
theorem qZ8{a b}(h:kl a b=false)(k:kl b a=false):a=b:=by
 rw[qW1] at *;exact zY8 (List.le_antisymm k h)
theorem qW0{a b c}(h:kl b a=false)(k:kl b c=true):kl a c=true:=by
 rw[qW1] at h;rw[zG5] at *;exact List.lt_of_le_of_lt h k
theorem qN3{a b c}(h:kl a b=true)(k:kl c b=false):kl a c=true:=by
 by_cases e:kl a c=true
 .exact e
 .have:=qW0 (a:=c) (b:=a) (c:=b) (by simpa using e) h;rw[k] at this;cases this
theorem xG3{a b c}(h:kl b a=false)(k:kl c b=false):kl c a=false:=by
 rw[qW1] at *;exact List.le_trans h k
theorem qI8{a b}(h:kl a b=true):a≠b:=λe=>by subst e;rw[qO5] at h;cases h
theorem qN2(a):kl a ⟨#[]⟩=false:=by
 rw[qW1];simp
theorem xG4(a b):(Op.bytesLess a.toList b.toList || a.toList == b.toList)=!kl b a:=by
 rw[zB7];by_cases h:kl a b=true
 .have:Op.bytesLess a.toList b.toList=true:=h;simp[this,qQ7 h]
 .have c:kl a b=false:=by simpa using h
  have f:Op.bytesLess a.toList b.toList=false:=c;by_cases e:a=b
  .subst e;simp[qO5]
  .have:kl b a=true:=by
    by_cases d:kl b a=true
    .exact d
    .exact absurd (qZ8 c (by simpa using d)) e
   simp[f,e,this]
structure KV where
 k:ByteArray
 v:ByteArray
 deriving DecidableEq
def Sorted(l:List KV):Prop:=l.Pairwise fun a b=>kl a.k b.k=true
def ins(p:KV)(l:List KV):List KV:=l.takeWhile (fun q=>kl q.k p.k)++p::(l.dropWhile (fun q=>kl q.k p.k)).filter (fun q=>!decide (q.k=p.k))
def del(k:ByteArray)(l:List KV):List KV:=l.filter fun q=>!decide (q.k=k)
theorem Sorted.append{a b}:Sorted (a++b)↔Sorted a/\Sorted b/\∀ x∈a,∀ y∈b,kl x.k y.k=true:=List.pairwise_append
theorem Sorted.del{l}(h:Sorted l)(k):Sorted (del k l):=h.sublist List.filter_sublist
theorem zH4{k}{l}{q}:q∈del k l↔q∈l/\q.k≠k:=by simp[del]
theorem zH5{p q}{l}(h:q∈ins p l):q=p\/q∈l:=by
 simp only[ins,List.mem_append,mC,List.mem_filter] at h;rcases h with h|h|⟨h,_⟩
 .exact .inr (List.takeWhile_sublist _ |>.subset h)
 .exact .inl h
 .exact .inr (List.dropWhile_sublist _ |>.subset h)
theorem zO4(p)(l):(ins p l).length<=l.length+1:=by
 have h:=congrArg List.length (List.takeWhile_append_dropWhile (p:=λq=>kl q.k p.k) (l:=l));have a:=List.length_filter_le (λq=>!decide (q.k=p.k)) (l.dropWhile (λq=>kl q.k p.k));simp only[ins,lA,lC] at *;omega
theorem zJ6{p:ByteArray}{l:List KV}:∀ q∈l.takeWhile (λq=>kl q.k p),kl q.k p=true:=by
 induction l with
 | nil=>intro q h;simp at h
 | cons a l ih=>
  intro q h;rw[List.takeWhile_cons] at h;split at h
  .rcases List.mem_cons.1 h with rfl|h
   .assumption
   .exact ih q h
  .simp at h
theorem zM8{p}{l}(d:Sorted l):∀ q∈l.dropWhile (λq=>kl q.k p),kl q.k p=false:=by
 induction l with
 | nil=>intro q h;simp at h
 | cons a l ih=>
  intro q h;have c:=pC d;rw[List.dropWhile_cons] at h;split at h
  .exact ih c.2 q h
  .next b=>
   have b:kl a.k p=false:=by simpa using b
   rcases List.mem_cons.1 h with rfl|h
   .exact b
   .exact qQ7 (qW0 b (c.1 q h))
theorem Sorted.ins{l}(h:Sorted l)(p):Sorted (ins p l):=by
 have i:Sorted (l.takeWhile (λq=>kl q.k p.k)++l.dropWhile (λq=>kl q.k p.k)):=by rw[List.takeWhile_append_dropWhile];exact h
 obtain⟨f,g,j⟩:=Sorted.append.1 i;have c:∀ q∈(l.dropWhile (λq=>kl q.k p.k)).filter (λq=>!decide (q.k=p.k)),kl p.k q.k=true:=by
  intro q a;simp only[List.mem_filter,Bool.not_eq_true',decide_eq_false_iff_not] at a;have:=zM8 h q a.1;by_cases e:kl p.k q.k=true
  .exact e
  .exact absurd (qZ8 this (by simpa using e)) a.2
 refine Sorted.append.2 ⟨f,List.pairwise_cons.2 ⟨c,g.sublist List.filter_sublist⟩,?_⟩;intro x d y b;rcases List.mem_cons.1 b with rfl|b
 .exact zJ6 x d
 .exact qO6 (zJ6 x d) (c y b)
theorem zE9{l:List KV}{k:ByteArray}(h:∀ q∈l,q.k≠k):l.filter (λq=>!decide (q.k=k))=l:=by
 rw[List.filter_eq_self];intro q a;simp[h q a]
theorem qY9{l}{k}(h:∀ q∈l,q.k≠k):del k l=l:=zE9 h
theorem qY8(k)(a b):del k (a++b)=del k a++del k b:=by simp[del]
theorem jO3{p}{a b c}(f:∀ q∈a,kl q.k p.k=true)(g:∀ q∈c,kl p.k q.k=true):ins p (a++b++c)=a++ins p b++c:=by
 have i:∀ (x y:List KV),(∀ q∈x,kl q.k p.k=true)->(x++y).takeWhile (λq=>kl q.k p.k)=x++y.takeWhile (λq=>kl q.k p.k):=by
  intro x y e
  induction x with
  | nil=>rfl
  | cons z x ih=>simp[List.takeWhile_cons,e z sM,ih (λq d=>e q (by simp[d]))]
 have j:∀ (x y:List KV),(∀ q∈x,kl q.k p.k=true)->(x++y).dropWhile (λq=>kl q.k p.k)=y.dropWhile (λq=>kl q.k p.k):=by
  intro x y e
  induction x with
  | nil=>rfl
  | cons z x ih=>simp[List.dropWhile_cons,e z sM,ih (λq d=>e q (by simp[d]))]
 have h:=λq d=>qQ7 (g q d);have k:∀ y:List KV,(y++c).takeWhile (λq=>kl q.k p.k)=y.takeWhile (λq=>kl q.k p.k):=by
  intro y
  induction y with
  | nil=>
   cases c with
   | nil=>rfl
   | cons z c=>simp[List.takeWhile_cons,h z sM]
  | cons z y ih=>simp only[cA,List.takeWhile_cons];split<;>simp_all
 have l:∀ y:List KV,(y++c).dropWhile (λq=>kl q.k p.k)=y.dropWhile (λq=>kl q.k p.k)++c:=by
  intro y
  induction y with
  | nil=>
   cases c with
   | nil=>rfl
   | cons z c=>simp[List.dropWhile_cons,h z sM]
  | cons z y ih=>simp only[cA,List.dropWhile_cons];split<;>simp_all
 have m:=zE9 λq d=>(qI8 (g q d)).symm;unfold ins;rw[aA,i _ _ f,j _ _ f,k,l,List.filter_append,m];simp
theorem jF4{k}{a b c}(e:∀ q∈a,kl q.k k=true)(f:∀ q∈c,kl k q.k=true):del k (a++b++c)=a++del k b++c:=by
 rw[qY8,qY8,qY9 λq d=>qI8 (e q d),qY9 λq d=>(qI8 (f q d)).symm]
theorem xR1{l}(c:Sorted l)(k):l.findIdx (λq=>!kl q.k k)=(l.takeWhile (λq=>kl q.k k)).length:=by
 induction l with
 | nil=>rfl
 | cons a l ih=>
  have d:=pC c;rw[List.findIdx_cons,List.takeWhile_cons];by_cases h:kl a.k k=true
  .simp[h,ih d.2]
  .have b:kl a.k k=false:=by simpa using h
   simp[b]
theorem xR6{l}(a:Sorted l)(k):l.take (l.findIdx (λq=>!kl q.k k))=l.takeWhile (λq=>kl q.k k):=by
 rw[xR1 a]
 conv=>lhs;arg 2;rw[<-List.takeWhile_append_dropWhile (p:=λq=>kl q.k k) (l:=l)]
 rw[List.take_left]
theorem xB6{l}(a:Sorted l)(k):l.drop (l.findIdx (λq=>!kl q.k k))=l.dropWhile (λq=>kl q.k k):=by
 rw[xR1 a]
 conv=>lhs;arg 2;rw[<-List.takeWhile_append_dropWhile (p:=λq=>kl q.k k) (l:=l)]
 rw[List.drop_left]
def qG1(l:List KV)(i:Nat)(k:ByteArray):Bool:=match l[i]? with
 | some q=>decide (q.k=k)
 | none=>false
def qB9(l:List KV)(k:ByteArray):Nat:=l.findIdx (fun q=>!kl q.k k)
theorem zJ2(l)(k):qB9 l k<=l.length:=fL
theorem qT6{l}(d:Sorted l)(p):ins p l=l.take (qB9 l p.k)++[p]++l.drop (if qG1 l (qB9 l p.k) p.k then qB9 l p.k+1 else qB9 l p.k):=by
 unfold ins qB9;rw[xR6 d];have b:=xB6 d p.k;have h:=zM8 (p:=p.k) d;have k:Sorted (l.dropWhile (λq=>kl q.k p.k)):=d.sublist (List.dropWhile_sublist _);generalize l.findIdx (λq=>!kl q.k p.k)=i at *;have c:l[i]?=(l.dropWhile (λq=>kl q.k p.k)).head?:=by rw[<-b];simp
 have g:l.drop (i+1)=(l.dropWhile (λq=>kl q.k p.k)).tail:=by rw[<-b];simp
 cases hc:l.dropWhile (λq=>kl q.k p.k) with
 | nil=>
  rw[hc] at c b;simp[qG1,c,b]
 | cons a r=>
  rw[hc] at c b g h k;have j:=pC k;by_cases e:a.k=p.k
  .have:r.filter (λq=>!decide (q.k=p.k))=r:=zE9 λq hq=>by rw[<-e];exact (qI8 (j.1 q hq)).symm
   simp[qG1,c,e,g,this]
  .have m:kl p.k a.k=true:=by
    by_cases f:kl p.k a.k=true
    .exact f
    .exact absurd (qZ8 (h a sM) (by simpa using f)) e
   have:r.filter (λq=>!decide (q.k=p.k))=r:=zE9 λq hq=>(qI8 (qO6 m (j.1 q hq))).symm;simp[qG1,c,e,b,this]
theorem zN8{l}(c:Sorted l)(k):qG1 l (qB9 l k) k=true↔∃ q∈l,q.k=k:=by
 unfold qB9;have m:=xB6 c k;have g:=zM8 (p:=k) c;have i:Sorted (l.dropWhile (λq=>kl q.k k)):=c.sublist (List.dropWhile_sublist _);have j:l[l.findIdx (λq=>!kl q.k k)]?=(l.dropWhile (λq=>kl q.k k)).head?:=by rw[<-m];simp
 have n:(∃ q∈l,q.k=k)↔∃ q∈l.dropWhile (λq=>kl q.k k),q.k=k:=by
  constructor
  .rintro⟨q,b,e⟩;rw[<-List.takeWhile_append_dropWhile (p:=λq=>kl q.k k) (l:=l)] at b;rcases mA b with h|h
   .exact absurd e (qI8 (zJ6 q h))
   .exact⟨q,h,e⟩
  .rintro⟨q,b,e⟩;exact⟨q,List.dropWhile_sublist _ |>.subset b,e⟩
 rw[n];unfold qG1;rw[j]
 cases hc:l.dropWhile (λq=>kl q.k k) with
 | nil=>simp
 | cons a r=>
  rw[hc] at i g;have o:=pC i;simp only[List.head?_cons,decide_eq_true_eq,mC,exists_eq_or_imp];constructor
  .intro h;exact .inl h
  .rintro (h|⟨q,b,e⟩)
   .exact h
   .have d:=o.1 q b;rw[e] at d;have f:=g a sM;rw[d] at f;cases f
theorem xB5{l}(j:Sorted l){k}(h:qG1 l (qB9 l k) k=true):del k l=l.take (qB9 l k)++l.drop (qB9 l k+1):=by
 have e:=tD (qB9 l k) l;unfold qG1 at h;split at h
 .next q hq=>
  have a:q.k=k:=by simpa using h
  have i:=(gS hq).1;have c:l.drop (qB9 l k)=q::l.drop (qB9 l k+1):=by
   rw[dG i,(gS hq).2]
  have m:Sorted (l.take (qB9 l k)++q::l.drop (qB9 l k+1)):=by rw[<-c,e];exact j
  obtain⟨n,d,f⟩:=Sorted.append.1 m;have g:=pC d
  conv=>lhs;rw[<-e,c]
  rw[qY8,qY9 λx b=>by rw[<-a];exact qI8 (f x b q sM)]
  congr 1
  rw[show q::l.drop (qB9 l k+1)=[q]++l.drop (qB9 l k+1) from rfl,qY8,qY9 (l:=l.drop (qB9 l k+1)) λx b=>by rw[<-a];exact (qI8 (g.1 x b)).symm];simp[del,a]
 .cases h
structure Lnk(X:Type) where
 key:ByteArray
 ref:Option (Nat × Int)
 sub:X
def Tn:Nat→Type
 | 0=>List KV
 | n+1=>List (Lnk (Tn n))
def cont:(n:Nat)→Tn n→List KV
 | 0,ps=>ps
 | n+1,ls=>List.flatMap (fun l:Lnk (Tn n)=>cont n l.sub) ls
def cnt:(n:Nat)→Tn n→Nat
 | 0,ps=>List.length (α:=KV) ps
 | n+1,ls=>List.length (α:=Lnk (Tn n)) ls
def θ(p:KV):Nat:=1+p.k.size+p.v.size
def qA2{X:Type}(l:Lnk X):Nat:=11+l.key.size
def meas{α:Type}(f:α→Nat)(l:List α):Nat:=(l.map f).sum
theorem qE2{α:Type}(f:α->Nat)(a b:List α):meas f (a++b)=meas f a+meas f b:=by simp[meas]
theorem qC2{α:Type}(f:α->Nat)(a:α)(b:List α):meas f (a::b)=f a+meas f b:=by simp[meas]
theorem qD1{α:Type}(f:α->Nat):meas f []=0:=rfl
def qG4{α:Type}(f:α→Nat)(all:Nat):List α→Nat→Nat
 | [],_=>0
 | x::xs,n=>if 2*n<all then qG4 f all xs (n+f x)+1 else 0
def qB8{α:Type}(f:α→Nat)(l:List α):List (List α):=
 if meas f l≤126 then [l] else [l.take (qG4 f (meas f l) l 0),l.drop (qG4 f (meas f l) l 0)]
def links{α:Type}(low:α→ByteArray)(key:ByteArray):List (List α)→List (Lnk (List α))
 | []=>[]
 | a::rest=>⟨key,none,a⟩::rest.map fun b=>⟨(b.head?.map low).getD ⟨#[]⟩,none,b⟩
def qE1(key:ByteArray)(ps:List KV):List (Lnk (Tn 0)):=links KV.k key (qB8 θ ps)
def qC9(n:Nat)(key:ByteArray)(ls:List (Lnk (Tn n))):List (Lnk (Tn (n+1))):=links Lnk.key key (qB8 qA2 ls)
def qA8{X:Type}(ls:List (Lnk X))(k:ByteArray):Nat:=ls.findIdx (fun l=>kl k l.key)-1
def qH3(p:KV)(ps:List KV):List KV:=ps.take (qB9 ps p.k)++[p]++ps.drop (if qG1 ps (qB9 ps p.k) p.k then qB9 ps p.k+1 else qB9 ps p.k)
def qE5:(n:Nat)→Lnk (Tn n)→KV→List (Lnk (Tn n))
 | 0,l,p=>qE1 l.key (qH3 p l.sub)
 | n+1,l,p=>
  let ls:List (Lnk (Tn n)):=l.sub
  match ls[qA8 ls p.k]? with
  | some m=>qC9 n l.key (ls.take (qA8 ls p.k)++qE5 n m p++ls.drop (qA8 ls p.k+1))
  | none=>[]
def qF8:(n:Nat)→ByteArray→Tn n→Tn n→List (Lnk (Tn n))
 | 0,key,a,b=>qE1 key (List.append (α:=KV) a b)
 | n+1,key,a,b=>qC9 n key (List.append (α:=Lnk (Tn n)) a b)
def qC6(n:Nat)(ls:List (Lnk (Tn n)))(i:Nat):List (Lnk (Tn n)):=
 match ls[i]? with
 | none=>ls
 | some l=>if 3≤cnt n l.sub then ls else
  match ls[min i (ls.length-2)]?,ls[min i (ls.length-2)+1]? with
  | some a,some b=>ls.take (min i (ls.length-2))++qF8 n a.key a.sub b.sub++ls.drop (min i (ls.length-2)+2)
  | _,_=>ls
def qC8:(n:Nat)→Lnk (Tn n)→ByteArray→List (Lnk (Tn n))
 | 0,l,k=>qE1 l.key (List.take (α:=KV) (qB9 l.sub k) l.sub++List.drop (α:=KV) (qB9 l.sub k+1) l.sub)
 | n+1,l,k=>
  let ls:List (Lnk (Tn n)):=l.sub
  match ls[qA8 ls k]? with
  | some m=>qC9 n l.key (qC6 n (ls.take (qA8 ls k)++qC8 n m k++ls.drop (qA8 ls k+1)) (qA8 ls k))
  | none=>[]
inductive Root where
 | none
 | at (n:Nat) (l:Lnk (Tn n))
def qM6:(n:Nat)→Lnk (Tn n)→Root
 | 0,l=>match (l.sub:List KV) with
  | []=>.none
  | _::_=>.at 0 l
 | n+1,l=>match (l.sub:List (Lnk (Tn n))) with
  | []=>.none
  | [m]=>.at n m
  | _::_::_=>.at (n+1) l
def qE6(n:Nat)(ls:List (Lnk (Tn n))):Root:=
 match ls with
 | []=>.none
 | [l]=>qM6 n l
 | ls=>match qC9 n ⟨#[]⟩ ls with
  | []=>.none
  | r::_=>qM6 (n+1) r
def Root.cont:Root→List KV
 | .none=>[]
 | .at n l=>YtdohpenfkdckiaaGreatDoor.cont n l.sub
def Root.put(r:Root)(p:KV):Root:=match r with
 | .none=>qE6 0 (qE1 ⟨#[]⟩ [p])
 | .at n l=>qE6 n (qE5 n l p)
def Root.del(r:Root)(k:ByteArray):Root:=match r with
 | .none=>.none
 | .at n l=>if (YtdohpenfkdckiaaGreatDoor.cont n l.sub).any (fun q=>decide (q.k=k)) then qE6 n (qC8 n l k) else .at n l
def qC3(p:KV):Prop:=1≤p.k.size∧p.k.size≤8∧p.v.size≤12
def zV3{X:Type}(co:X→List KV)(a b:Lnk X):Prop:=kl a.key b.key=true∧∀ q∈co a.sub,kl q.k b.key=true
abbrev qR2(n:Nat)(a b:Lnk (Tn n)):Prop:=zV3 (cont n) a b
structure GoodL(lo:ByteArray)(ps:List KV):Prop where
 sorted:Sorted ps
 all:∀ p∈ps,qC3 p∧kl p.k lo=false
 fits:meas θ ps≤126
structure GoodB{X:Type}(G:ByteArray→X→Prop)(C:X→Nat)(co:X→List KV)(lo:ByteArray)(ls:List (Lnk X)):Prop where
 head:∀ l∈ls.head?,l.key=lo
 all:∀ l∈ls,G l.key l.sub∧3≤C l.sub∧l.key.size≤8
 pair:ls.Pairwise (zV3 co)
 fits:meas qA2 ls≤126
def Good:(n:Nat)→ByteArray→Tn n→Prop
 | 0,lo,ps=>GoodL lo ps
 | n+1,lo,ls=>GoodB (Good n) (cnt n) (cont n) lo ls
structure Row0(n:Nat)(lo:ByteArray)(ls:List (Lnk (Tn n))):Prop where
 head:∀ l∈ls.head?,l.key=lo
 all:∀ l∈ls,Good n l.key l.sub∧l.key.size≤8
 pair:ls.Pairwise (qR2 n)
theorem qK5:∀ (n:Nat) (lo) (t),Good n lo t->Sorted (cont n t)/\∀ q∈cont n t,qC3 q/\kl q.k lo=false
 | 0,lo,ps,h=>⟨h.1,h.2⟩
 | n+1,lo,ls,h=>by
  obtain⟨u,s,i,_⟩:=h;have o:=λl:Lnk (Tn n)=>qK5 n l.key l.sub;have key:∀ (ls:List (Lnk (Tn n))),(∀ l∈ls,Good n l.key l.sub)->ls.Pairwise (qR2 n)->Sorted (ls.flatMap λl=>cont n l.sub)/\∀ q∈ls.flatMap (λl=>cont n l.sub),qC3 q/\∀ l∈ls.head?,kl q.k l.key=false:=by
   intro ls
   induction ls with
   | nil=>intro _ _;simp[Sorted]
   | cons a ls ihl=>
    intro g i;obtain⟨m,v⟩:=pC i;obtain⟨C,D⟩:=ihl (λl hl=>g l (by simp[hl])) v;obtain⟨p,j⟩:=o a (g a sM);have k:∀ q∈ls.flatMap (λl=>cont n l.sub),∃ b∈ls,kl q.k b.key=false:=by
     intro q c;obtain⟨b,d,c⟩:=mF c;exact⟨b,d,((o b (g b (by simp[d]))).2 q c).2⟩
    rw[fC];refine⟨Sorted.append.2 ⟨p,C,?_⟩,?_⟩
    .intro x z y A;obtain⟨b,d,B⟩:=k y A;exact qN3 ((m b d).2 x z) B
    .intro q c;rcases mA c with c|c
     .exact⟨(j q c).1,by simpa using (j q c).2⟩
     .obtain⟨b,d,w⟩:=k q c;refine⟨(D q c).1,?_⟩;simp only[List.head?_cons,Option.mem_def,Option.some.injEq,forall_eq'];exact xG3 (qQ7 (m b d).1) w
  obtain⟨E,F⟩:=key ls (λl hl=>(s l hl).1) i;refine⟨E,λq c=>?_⟩;obtain⟨G,H⟩:=F q c;refine⟨G,?_⟩
  cases hls:(ls:List (Lnk (Tn n))) with
  | nil=>rw[show cont (n+1) ls=List.flatMap (λl:Lnk (Tn n)=>cont n l.sub) ls from rfl,hls] at c;simp at c
  | cons a r=>
   have e:=u a (by rw[hls];simp);have:=H a (by rw[hls];simp);rw[e] at this;exact this
section
variable {α:Type} (f:α→Nat)
theorem zE4(a m:Nat):∀ (l:List α) (n:Nat),(∀ x∈l,f x<=m)->2*n<a+2*m->a<=2*(n+meas f l)->
  a<=2*(n+meas f (l.take (qG4 f a l n)))/\2*(n+meas f (l.take (qG4 f a l n)))<a+2*m
 | [],n,_,h1,h2=>by simp[qG4,meas] at *;omega
 | x::xs,n,hm,h1,h2=>by
  unfold qG4;have c:=hm x sM;split
  .have d:=zE4 a m xs (n+f x) (λy b=>hm y (by simp[b])) oM (by rw[qC2] at h2;omega);rw[List.take_succ_cons,qC2];omega
  .simp[meas];omega
theorem qN5(m:Nat):∀ (l:List α),(∀ x∈l,f x<=m)->meas f l<=m*l.length
 | [],_=>by simp[meas]
 | x::xs,h=>by
  have b:=h x sM;have c:=qN5 m xs λy a=>h y (by simp[a]);rw[qC2,lC,Nat.mul_succ];omega
theorem qN6(l:List α)(i:Nat):meas f (l.take i)+meas f (l.drop i)=meas f l:=by
 rw[<-qE2,tD]
theorem zF7(l:List α)(c:∀ x∈l,f x<=21)(e:meas f l<=210):
  (qB8 f l=[l]/\meas f l<=126)\/∃ a b,qB8 f l=[a,b]/\a++b=l/\meas f a<=126/\meas f b<=126/\3<=a.length/\3<=b.length:=by
 unfold qB8;split
 .exact .inl ⟨rfl,by assumption⟩
 .next h=>
  right;have g:=zE4 f (meas f l) 21 l 0 c oM oM;have i:=qN6 f l (qG4 f (meas f l) l 0);refine⟨_,_,rfl,tD _ _,oM,oM,?_,?_⟩
  .have:=qN5 f 21 (l.take (qG4 f (meas f l) l 0)) λx d=>c x (mT d);omega
  .have:=qN5 f 21 (l.drop (qG4 f (meas f l) l 0)) λx d=>c x (mD d);omega
end
theorem zA0{lo}{ps}(t:Sorted ps)(g:∀ p∈ps,qC3 p/\kl p.k lo=false)(B:meas θ ps<=210)(s:lo.size<=8):
  Row0 0 lo (qE1 lo ps)/\(qE1 lo ps).flatMap (λl=>cont 0 l.sub)=ps/\
  ((∃ a,qE1 lo ps=[a]/\a.key=lo/\a.ref=none/\a.sub=ps)\/∃ a b,qE1 lo ps=[a,b]/\a.key=lo/\a.ref=none/\b.ref=none/\3<=cnt 0 a.sub/\3<=cnt 0 b.sub):=by
 have D:∀ x∈ps,θ x<=21:=λx hx=>by obtain⟨⟨m,h2,h3⟩,_⟩:=g x hx;unfold θ;omega
 rcases zF7 θ ps D B with⟨e,m⟩|⟨a,b,e,y,w,z,n,o⟩
 .have j:qE1 lo ps=[⟨lo,none,ps⟩]:=by unfold qE1;rw[e];rfl
  rw[j];refine⟨⟨sM,?_,sM⟩,aN ps,.inl ⟨_,rfl,rfl,rfl,rfl⟩⟩;intro l i;rw[mS i];exact⟨⟨t,g,m⟩,s⟩
 .subst y;obtain⟨c,r,rfl⟩:∃ c r,b=c::r:=by cases b with
   | nil=>simp at o
   | cons c r=>exact⟨c,r,rfl⟩
  obtain⟨c0,k,rfl⟩:∃ c r,a=c::r:=by cases a with
   | nil=>simp at n
   | cons c r=>exact⟨c,r,rfl⟩
  have j:qE1 lo (c0::k++c::r)=[⟨lo,none,c0::k⟩,⟨c.k,none,c::r⟩]:=by unfold qE1;rw[e];rfl
  rw[j];obtain⟨E,u,v⟩:=Sorted.append.1 t;have A:=g c sM;refine⟨⟨sM,?_,?_⟩,show c0::k++(c::r++[])=_ by simp,.inr ⟨_,_,rfl,rfl,rfl,rfl,n,o⟩⟩
  .intro l i;simp only[mC,lN,or_false] at i;rcases i with rfl|rfl
   .exact⟨⟨E,λp d=>g p (by simp at d |-;rcases d with h | h<;>simp[h]),w⟩,s⟩
   .refine⟨⟨u,λp d=>⟨(g p (List.mem_append_right _ d)).1,?_⟩,z⟩,A.1.2.1⟩;rcases List.mem_cons.1 d with rfl|d
    .exact qO5 _
    .exact qQ7 ((pC u).1 p d)
  .simp only[List.pairwise_cons,mC,lN,or_false,forall_eq,List.Pairwise.nil,and_true,false_implies,implies_true];refine⟨qW0 (g c0 sM).2 (v c0 sM c sM),λq C=>v q C c sM⟩
theorem zL9{n:Nat}{lo}{ls}(h:Row0 n lo ls)(m:∀ l∈ls,3<=cnt n l.sub)(A:meas qA2 ls<=210)(t:lo.size<=8):
  Row0 (n+1) lo (qC9 n lo ls)/\(qC9 n lo ls).flatMap (λl=>cont (n+1) l.sub)=ls.flatMap (λl=>cont n l.sub)/\
  ((∃ a,qC9 n lo ls=[a]/\a.key=lo/\a.ref=none/\a.sub=ls)\/∃ a b,qC9 n lo ls=[a,b]/\a.key=lo/\a.ref=none/\b.ref=none/\3<=cnt (n+1) a.sub/\3<=cnt (n+1) b.sub):=by
 have B:∀ x∈ls,qA2 x<=21:=λx hx=>by have:=(h.all x hx).2;unfold qA2;omega
 rcases zF7 qA2 ls B A with⟨e,v⟩|⟨a,b,e,y,w,z,o,p⟩
 .have i:qC9 n lo ls=[⟨lo,none,ls⟩]:=by unfold qC9;rw[e];rfl
  rw[i];refine⟨⟨sM,?_,sM⟩,aN _,.inl ⟨_,rfl,rfl,rfl,rfl⟩⟩;intro l d;rw[mS d];exact⟨⟨h.head,λl d=>⟨(h.all l d).1,m l d,(h.all l d).2⟩,h.pair,v⟩,t⟩
 .subst y;obtain⟨c,r,rfl⟩:∃ c r,b=c::r:=by cases b with
   | nil=>simp at p
   | cons c r=>exact⟨c,r,rfl⟩
  obtain⟨c0,g,rfl⟩:∃ c r,a=c::r:=by cases a with
   | nil=>simp at o
   | cons c r=>exact⟨c,r,rfl⟩
  have i:qC9 n lo (c0::g++c::r)=[⟨lo,none,c0::g⟩,⟨c.key,none,c::r⟩]:=by unfold qC9;rw[e];rfl
  rw[i];obtain⟨C,D,u⟩:=pA h.pair;have s:=h.head c0 sM;have j:∀ l∈c0::g++c::r,Good n l.key l.sub/\3<=cnt n l.sub/\l.key.size<=8:=λl d=>⟨(h.all l d).1,m l d,(h.all l d).2⟩;refine⟨⟨sM,?_,?_⟩,?_,.inr ⟨_,_,rfl,rfl,rfl,rfl,o,p⟩⟩
  rotate_left 2
  .show List.flatMap _ (c0::g)++(List.flatMap _ (c::r)++[])=_;rw[aN,<-fA]
  .intro l d;simp only[mC,lN,or_false] at d;rcases d with rfl|rfl
   .exact⟨⟨by simpa using s,λl d=>j l (List.mem_append_left _ d),C,w⟩,t⟩
   .exact⟨⟨sM,λl d=>j l (List.mem_append_right _ d),D,z⟩,(j c sM).2.2⟩
  .simp only[List.pairwise_cons,mC,lN,or_false,forall_eq,List.Pairwise.nil,and_true,false_implies,implies_true];refine⟨by rw[<-s];exact (u c0 sM c sM).1,λq k=>?_⟩;obtain⟨l,d,k⟩:=mF k;exact (u l d c sM).2 q k
def η{n:Nat}(t:Tn (n+1)):List (Lnk (Tn n)):=t
def prs(t:Tn 0):List KV:=t
theorem qY6:∀ (n:Nat) (lo) (t),Good n lo t->1<=cnt n t->∃ q,q∈cont n t
 | 0,lo,ps,h,h1=>by
  have c:1<=(prs ps).length:=h1;obtain⟨a,b⟩:=List.exists_mem_of_length_pos (l:=prs ps) oM;exact⟨a,b⟩
 | n+1,lo,ls,h,h1=>by
  have c:1<=(η ls).length:=h1;obtain⟨a,b⟩:=List.exists_mem_of_length_pos (l:=η ls) oM;have d:=h.all a b;obtain⟨q,e⟩:=qY6 n a.key a.sub d.1 oM;exact⟨q,List.mem_flatMap.2 ⟨a,b,e⟩⟩
theorem zC3{n:Nat}{lo k}{ls}(h:Row0 n lo ls)(v:ls≠[])(u:kl k lo=false):
  ∃ A m B,ls=A++m::B/\A.length=qA8 ls k/\kl k m.key=false/\(∀ a∈A,∀ q∈cont n a.sub,kl q.k k=true)/\(∀ b∈B,kl k b.key=true):=by
 have D:1<=ls.findIdx (λl=>kl k l.key):=by
  cases ls with
  | nil=>exact absurd rfl v
  | cons a r=>
   have e:=h.head a sM;rw[List.findIdx_cons,e,u];simp
 have C:ls.findIdx (λl=>kl k l.key)<=ls.length:=fL;have z:qA8 ls k<ls.length:=by unfold qA8;omega
 have g:kl k (ls[qA8 ls k]).key=false:=by
  have:=List.not_of_lt_findIdx (p:=λl:Lnk (Tn n)=>kl k l.key) (xs:=ls) (i:=qA8 ls k) (by unfold qA8;omega);simpa using this
 have s:ls=ls.take (qA8 ls k)++ls[qA8 ls k]::ls.drop (qA8 ls k+1):=by
  rw[List.getElem_cons_drop];simp
 have j:=h.pair;rw[s] at j;obtain⟨E,F,y⟩:=pA j;refine⟨ls.take (qA8 ls k),ls[qA8 ls k],ls.drop (qA8 ls k+1),s,sO,g,?_,?_⟩
 .intro a t q x;exact qN3 ((y a t _ (List.mem_cons_self ..)).2 q x) g
 .intro b c;have e:qA8 ls k+1=ls.findIdx (λl=>kl k l.key):=by unfold qA8;omega
  rw[e] at c;by_cases d:ls.findIdx (λl=>kl k l.key)<ls.length
  .have f:=List.findIdx_getElem (w:=d);rw[dG d] at c;rcases List.mem_cons.1 c with rfl|c
   .exact f
   .have o:=h.pair;rw[<-tD (ls.findIdx (λl=>kl k l.key)) ls,dG d] at o;have:=(pC (pA o).2.1).1 b c;exact qO6 f this.1
  .rw[dL oM] at c;simp at c
theorem Row0.keys{n:Nat}{lo}{W}(h:Row0 n lo W):∀ w∈W,kl w.key lo=false:=by
 intro w b
 cases W with
 | nil=>simp at b
 | cons a r=>
  have e:=h.head a sM;rcases List.mem_cons.1 b with rfl|b
  .rw[e];exact qO5 _
  .have:=((pC h.pair).1 w b).1;rw[e] at this;exact qQ7 this
theorem zI9{n:Nat}{lo}{A B W}{m}(h:Row0 n lo (A++m::B))(d:Row0 n m.key W)(u:W≠[])(t:∀ w∈W,1<=cnt n w.sub)
  (j:∀ w∈W,∀ q∈cont n w.sub,∀ b∈B,kl q.k b.key=true):Row0 n lo (A++W++B):=by
 obtain⟨z,C,s⟩:=pA h.pair;obtain⟨E,D⟩:=pC C;refine⟨?_,?_,?_⟩
 .intro l c
  cases A with
  | nil=>
   have e:=h.head m sM
   cases W with
   | nil=>exact absurd rfl u
   | cons w W=>
    simp at c;rw[<-c,d.head w sM,e]
  | cons a A=>
   simp at c;rw[<-c];exact h.head a sM
 .intro l c;simp only[List.mem_append] at c;rcases c with (c|c)|c
  .exact h.all l (by simp[c])
  .exact d.all l c
  .exact h.all l (by simp[c])
 .rw[aA];refine List.pairwise_append.2 ⟨z,List.pairwise_append.2 ⟨d.pair,D,?_⟩,?_⟩
  .intro w g b o;obtain⟨q,f⟩:=qY6 n w.key w.sub (d.all w g).1 (t w g);have v:=j w g q f b o;have y:=((qK5 n w.key w.sub (d.all w g).1).2 q f).2;exact⟨qW0 y v,λq f=>j w g q f b o⟩
  .intro a k x i;rcases mA i with i|i
   .have r:=s a k m sM;have p:=d.keys x i;exact⟨qN3 r.1 p,λq f=>qN3 (r.2 q f) p⟩
   .exact s a k x (by simp[i])
theorem zQ4(p){l}(a:Sorted l):meas θ (ins p l)<=meas θ l+θ p:=by
 rw[qT6 a,qE2,qE2,qC2,qD1];have b:=qN6 θ l (qB9 l p.k);have c:meas θ (l.drop (if qG1 l (qB9 l p.k) p.k then qB9 l p.k+1 else qB9 l p.k))<=meas θ (l.drop (qB9 l p.k)):=by
  split
  .have:=qN6 θ (l.drop (qB9 l p.k)) 1;rw[List.drop_drop] at this;omega
  .exact lR
 omega
theorem jO2(p){l}(a:Sorted l):l.length<=(ins p l).length:=by
 rw[qT6 a];have:=zJ2 l p.k;simp only[lA,lK,lD,lC,List.length_nil];split<;>omega
def Made(n:Nat)(l:Lnk (Tn n))(d:Nat)(W:List (Lnk (Tn n))):Prop:=
 (∃ a,W=[a]∧a.key=l.key∧a.ref=none∧cnt n l.sub≤cnt n a.sub+d)∨∃ a b,W=[a,b]∧a.key=l.key∧a.ref=none∧b.ref=none∧3≤cnt n a.sub∧3≤cnt n b.sub
theorem Made.ne{n:Nat}{l}{d:Nat}{W}(h:Made n l d W):W≠[]:=by
 rcases h with⟨a,rfl,_⟩|⟨a,b,rfl,_⟩<;>simp
theorem Made.meas{n:Nat}{l}{d:Nat}{W}(h:Made n l d W)(c:∀ w∈W,w.key.size<=8):meas qA2 W<=qA2 l+19:=by
 rcases h with⟨a,rfl,e,_⟩|⟨a,b,rfl,e,_⟩
 .simp[YtdohpenfkdckiaaGreatDoor.meas,qA2,e]
 .have:=c b sM;simp[YtdohpenfkdckiaaGreatDoor.meas,qA2,e];omega
theorem zC4:∀ (n:Nat) (l) (p),Good n l.key l.sub->qC3 p->kl p.k l.key=false->l.key.size<=8->1<=cnt n l.sub->
  Row0 n l.key (qE5 n l p)/\(qE5 n l p).flatMap (λl=>cont n l.sub)=ins p (cont n l.sub)/\Made n l 0 (qE5 n l p)
 | 0,l,p,h,hp,hk,hz,C=>by
  have y:=h.sorted;have e:qH3 p l.sub=ins p l.sub:=(qT6 y p).symm;have r:=zQ4 p y;have ab:θ p<=21:=by obtain⟨C,D,h3⟩:=hp;unfold θ;omega
  obtain⟨Y,Z,r3⟩:=zA0 (lo:=l.key) (ps:=ins p l.sub) (y.ins p) (λq c=>by
   rcases zH5 c with rfl|c
   .exact⟨hp,hk⟩
   .exact h.all q c) (by have:=h.fits;omega) hz
  show Row0 0 l.key (qE1 l.key (qH3 p l.sub))/\List.flatMap _ (qE1 l.key (qH3 p l.sub))=_/\Made 0 l 0 (qE1 l.key (qH3 p l.sub));rw[e];refine⟨Y,Z,?_⟩;rcases r3 with⟨a,d,j,o,i⟩|⟨a,b,d,j,o,i,t,u⟩
  .refine .inl ⟨a,d,j,o,?_⟩;rw[i];exact jO2 p y
  .exact .inr ⟨a,b,d,j,o,i,t,u⟩
 | n+1,l,p,h,hp,hk,hz,C=>by
  have G:Row0 n l.key l.sub:=⟨h.head,λm r=>⟨(h.all m r).1,(h.all m r).2.2⟩,h.pair⟩;obtain⟨A,m,B,e,E,R,U,F⟩:=zC3 (k:=p.k) G (by intro e;have D:1<=List.length (α:=Lnk (Tn n)) l.sub:=C;rw[e] at D;simp at D) hk;have v:=λx g=>h.all x (by rw[e];exact g);have r:=v m sM;obtain⟨J,K,z⟩:=zC4 n m p r.1 hp R r.2.2 oM;have I:∀ w∈qE5 n m p,3<=cnt n w.sub:=by
   rcases z with⟨a,d,_,_,i⟩|⟨a,b,d,_,_,_,t,u⟩
   .rw[d];intro w f;rw[mS f];omega
   .rw[d];intro w f;simp only[mC,lN,or_false] at f;rcases f with rfl|rfl<;>assumption
  have H:Row0 n l.key (A++m::B):=by rw[<-e];exact G
  have V:=λw f q c=>by
   have:q∈(qE5 n m p).flatMap (λl=>cont n l.sub):=List.mem_flatMap.2 ⟨w,f,c⟩;rw[K] at this;exact zH5 this
  have T:=pA H.pair;have W:=zI9 H J z.ne (λw f=>by have:=I w f;omega) (λw f q c b s=>by
   rcases V w f q c with rfl|c
   .exact F b s
   .exact ((pC T.2.1).1 b s).2 q c)
  have aa:=z.meas (λw f=>(J.all w f).2);have P:meas qA2 (A++m::B)<=126:=by have:=h.fits;rw[e] at this;exact this
  have S:meas qA2 (A++qE5 n m p++B)<=210:=by
   rw[qE2,qE2];rw[qE2,qC2] at P;omega
  have Q:(η l.sub)[qA8 (η l.sub) p.k]?=some m:=by rw[show qA8 (η l.sub) p.k=A.length from E.symm,show η l.sub=A++m::B from e];simp
  have X:(η l.sub).take (qA8 (η l.sub) p.k)=A:=by rw[show qA8 (η l.sub) p.k=A.length from E.symm,show η l.sub=A++m::B from e];simp
  have O:(η l.sub).drop (qA8 (η l.sub) p.k+1)=B:=by
   rw[show qA8 (η l.sub) p.k=A.length from E.symm,show η l.sub=(A++[m])++B by rw[show η l.sub=A++m::B from e];simp];exact List.drop_left' sM
  have f:qE5 (n+1) l p=qC9 n l.key (A++qE5 n m p++B):=by
   show (match (η l.sub)[qA8 (η l.sub) p.k]? with
    | some m=>qC9 n l.key ((η l.sub).take (qA8 (η l.sub) p.k)++qE5 n m p++(η l.sub).drop (qA8 (η l.sub) p.k+1))
    | none=>[])=_
   rw[Q,X,O]
  rw[f];obtain⟨L,M,N⟩:=zL9 W (λx g=>by
   simp only[List.mem_append] at g;rcases g with (g|g)|g
   .exact (v x (by simp[g])).2.1
   .exact I x g
   .exact (v x (by simp[g])).2.1) S hz
  refine⟨L,?_,?_⟩
  .rw[M];show _=ins p (List.flatMap (λl:Lnk (Tn n)=>cont n l.sub) l.sub);rw[e];simp only[fA,K,fC];rw[<-aA,jO3 (λq c=>by obtain⟨a,ha,c⟩:=mF c;exact U a ha q c) (λq c=>by
    obtain⟨b,s,c⟩:=mF c;exact qN3 (F b s) ((qK5 n b.key b.sub (v b (by simp[s])).1).2 q c).2)]
  .rcases N with⟨a,d,j,o,i⟩|⟨a,b,d,j,o,i,t,u⟩
   .refine .inl ⟨a,d,j,o,?_⟩;rw[i];show List.length (α:=Lnk (Tn n)) l.sub<=List.length (α:=Lnk (Tn n)) (A++qE5 n m p++B);rw[e];have:1<=(qE5 n m p).length:=by
     rcases z with⟨a,d,_⟩|⟨a,b,d,_⟩<;>rw[d]<;>simp
    simp;omega
   .exact .inr ⟨a,b,d,j,o,i,t,u⟩
theorem jQ1:∀ (n:Nat) (a b),Good n a.key a.sub->Good n b.key b.sub->qR2 n a b->(cnt n a.sub<=2\/cnt n b.sub<=2)->a.key.size<=8->3<=cnt n a.sub+cnt n b.sub->1<=cnt n a.sub->
  Row0 n a.key (qF8 n a.key a.sub b.sub)/\(qF8 n a.key a.sub b.sub).flatMap (λl=>cont n l.sub)=cont n a.sub++cont n b.sub/\(∀ w∈qF8 n a.key a.sub b.sub,3<=cnt n w.sub)/\qF8 n a.key a.sub b.sub≠[]/\meas qA2 (qF8 n a.key a.sub b.sub)<=qA2 a+19
 | 0,a,b,ha,hb,hab,hc,hz,k,t=>by
  have P:Sorted (prs a.sub++prs b.sub):=Sorted.append.2 ⟨ha.sorted,hb.sorted,λx i y D=>qN3 (hab.2 x i) (hb.all y D).2⟩;have G:∀ p∈prs a.sub++prs b.sub,qC3 p/\kl p.k a.key=false:=λp f=>by
   rcases mA f with f|f
   .exact ha.all p f
   .exact⟨(hb.all p f).1,xG3 (qQ7 hab.1) (hb.all p f).2⟩
  have v:∀ p∈prs a.sub++prs b.sub,θ p<=21:=λp f=>by obtain⟨⟨t,F,k⟩,_⟩:=G p f;unfold θ;omega
  have o:meas θ (prs a.sub++prs b.sub)<=210:=by
   rw[qE2];have t:=qN5 θ 21 (prs a.sub) λp f=>v p (List.mem_append_left _ f);have F:=qN5 θ 21 (prs b.sub) λp f=>v p (List.mem_append_right _ f);have k:meas θ (prs a.sub)<=126:=ha.fits;have A:meas θ (prs b.sub)<=126:=hb.fits;have L:(prs a.sub).length<=2\/(prs b.sub).length<=2:=hc;omega
  obtain⟨z,E,j⟩:=zA0 P G o hz;refine⟨z,E,?_,?_,?_⟩
  .intro w g;rw[show qF8 0 a.key a.sub b.sub=qE1 a.key (prs a.sub++prs b.sub) from rfl] at g;rcases j with⟨x,c,h,C,s⟩|⟨x,y,c,h,C,s,J,K⟩
   .rw[c] at g;rw[mS g,s];show 3<=(prs a.sub++prs b.sub).length;rw[lA];exact k
   .rw[c] at g;simp only[mC,lN,or_false] at g;rcases g with rfl|rfl<;>assumption
  .show qE1 a.key (prs a.sub++prs b.sub)≠[];rcases j with⟨x,c,_⟩|⟨x,y,c,_⟩<;>rw[c]<;>simp
  .show meas qA2 (qE1 a.key (prs a.sub++prs b.sub))<=_;rcases j with⟨x,c,h,_⟩|⟨x,y,c,h,_⟩
   .rw[c];simp[meas,qA2,h]
   .have:=(z.all y (by rw[c];simp)).2;rw[c];simp[meas,qA2,h];omega
 | n+1,a,b,ha,hb,hab,hc,hz,k,t=>by
  have u:∀ l∈η a.sub++η b.sub,Good n l.key l.sub/\3<=cnt n l.sub/\l.key.size<=8:=λl d=>by
   rcases mA d with d|d
   .exact ha.all l d
   .exact hb.all l d
  have N:=λl d=>(Row0.keys (W:=η b.sub) ⟨hb.head,λm o=>⟨(hb.all m o).1,(hb.all m o).2.2⟩,hb.pair⟩) l d;have M:η a.sub≠[]:=λe=>by
   have A:1<=(η a.sub).length:=t;rw[e] at A;simp at A
  have O:Row0 n a.key (η a.sub++η b.sub):=by
   refine⟨?_,λl d=>⟨(u l d).1,(u l d).2.2⟩,List.pairwise_append.2 ⟨ha.pair,hb.pair,?_⟩⟩
   .intro l d;rw[List.head?_append] at d
    cases i:η a.sub with
    | nil=>exact absurd i M
    | cons x r=>
     rw[i] at d;exact ha.head l (by show l∈(η a.sub).head?;rw[i];simpa using d)
   .intro x i y D;have I:=u x (List.mem_append_left _ i);have H:=λq B=>qN3 (hab.2 q (List.mem_flatMap.2 ⟨x,i,B⟩)) (N y D);obtain⟨q,B⟩:=qY6 n x.key x.sub I.1 oM;exact⟨qW0 ((qK5 n x.key x.sub I.1).2 q B).2 (H q B),H⟩
  have v:∀ l∈η a.sub++η b.sub,qA2 l<=21:=λl d=>by have:=(u l d).2.2;unfold qA2;omega
  have o:meas qA2 (η a.sub++η b.sub)<=210:=by
   rw[qE2];have t:=qN5 qA2 21 (η a.sub) λp f=>v p (List.mem_append_left _ f);have F:=qN5 qA2 21 (η b.sub) λp f=>v p (List.mem_append_right _ f);have k:meas qA2 (η a.sub)<=126:=ha.fits;have A:meas qA2 (η b.sub)<=126:=hb.fits;have L:(η a.sub).length<=2\/(η b.sub).length<=2:=hc;omega
  obtain⟨z,E,j⟩:=zL9 O (λl d=>(u l d).2.1) o hz;refine⟨z,?_,?_,?_,?_⟩
  .refine Eq.trans E ?_;rw[fA];rfl
  .intro w g;rw[show qF8 (n+1) a.key a.sub b.sub=qC9 n a.key (η a.sub++η b.sub) from rfl] at g;rcases j with⟨x,c,h,C,s⟩|⟨x,y,c,h,C,s,J,K⟩
   .rw[c] at g;rw[mS g,s];show 3<=(η a.sub++η b.sub).length;rw[lA];exact k
   .rw[c] at g;simp only[mC,lN,or_false] at g;rcases g with rfl|rfl<;>assumption
  .show qC9 n a.key (η a.sub++η b.sub)≠[];rcases j with⟨x,c,_⟩|⟨x,y,c,_⟩<;>rw[c]<;>simp
  .show meas qA2 (qC9 n a.key (η a.sub++η b.sub))<=_;rcases j with⟨x,c,h,_⟩|⟨x,y,c,h,_⟩
   .rw[c];simp[meas,qA2,h]
   .have:=(z.all y (by rw[c];simp)).2;rw[c];simp[meas,qA2,h];omega
theorem Row0.drop_one{n:Nat}{lo}{P Q}{a b}(h:Row0 n lo (P++a::b::Q)):Row0 n lo (P++a::Q):=
 ⟨λl c=>h.head l (by cases P<;>simpa using c),λl c=>h.all l (by
  rcases mA c with c|c
  .simp[c]
  .rcases List.mem_cons.1 c with rfl|c
   .simp
   .simp[c]),h.pair.sublist (List.Sublist.append_left (List.Sublist.cons_cons _ (List.sublist_cons_self _ _)) _)⟩
theorem xK6{n:Nat}{lo}{P Q}{a b}(h:Row0 n lo (P++a::b::Q))(r:∀ x∈P,3<=cnt n x.sub)(s:∀ x∈Q,3<=cnt n x.sub)(t:cnt n a.sub<=2\/cnt n b.sub<=2)(p:3<=cnt n a.sub+cnt n b.sub)(o:1<=cnt n a.sub):
  Row0 n lo (P++qF8 n a.key a.sub b.sub++Q)/\(P++qF8 n a.key a.sub b.sub++Q).flatMap (λl=>cont n l.sub)=(P++a::b::Q).flatMap (λl=>cont n l.sub)/\(∀ x∈P++qF8 n a.key a.sub b.sub++Q,3<=cnt n x.sub)/\
  (P++a::b::Q).length<=(P++qF8 n a.key a.sub b.sub++Q).length+1/\meas qA2 (P++qF8 n a.key a.sub b.sub++Q)<=meas qA2 (P++a::b::Q)+19:=by
 have u:=pA h.pair;have e:=pC u.2.1;have v:=pC e.2;have g:=h.all a sM;have m:=h.all b sM;obtain⟨y,i,j,k,z⟩:=jQ1 n a b g.1 m.1 (e.1 b sM) t g.2 p o;refine⟨zI9 h.drop_one y k (λw f=>by have:=j w f;omega) ?_,?_,?_,?_,?_⟩
 .intro w f q d x c;have:q∈(qF8 n a.key a.sub b.sub).flatMap (λl=>cont n l.sub):=List.mem_flatMap.2 ⟨w,f,d⟩;rw[i] at this;rcases mA this with d|d
  .exact (e.1 x (by simp[c])).2 q d
  .exact (v.1 x c).2 q d
 .simp only[fA,fC,i,aA]
 .intro x c;simp only[List.mem_append] at c;rcases c with (c|c)|c
  .exact r x c
  .exact j x c
  .exact s x c
 .have:1<=(qF8 n a.key a.sub b.sub).length:=List.length_pos_iff.2 k;simp;omega
 .simp only[qE2,qC2];omega
theorem xK7{n:Nat}{lo}{A W B}{m}(h:Row0 n lo (A++W++B))(f:∀ x∈A,3<=cnt n x.sub)(g:∀ x∈B,3<=cnt n x.sub)(o:Made n m 1 W)(E:3<=cnt n m.sub)(v:2<=(A++W++B).length):
  Row0 n lo (qC6 n (A++W++B) A.length)/\(qC6 n (A++W++B) A.length).flatMap (λl=>cont n l.sub)=(A++W++B).flatMap (λl=>cont n l.sub)/\(∀ x∈qC6 n (A++W++B) A.length,3<=cnt n x.sub)/\
  (A++W++B).length<=(qC6 n (A++W++B) A.length).length+1/\meas qA2 (qC6 n (A++W++B) A.length)<=meas qA2 (A++W++B)+19:=by
 have k:(∀ x∈W,3<=cnt n x.sub)->Row0 n lo (qC6 n (A++W++B) A.length)/\(qC6 n (A++W++B) A.length).flatMap (λl=>cont n l.sub)=(A++W++B).flatMap (λl=>cont n l.sub)/\(∀ x∈qC6 n (A++W++B) A.length,3<=cnt n x.sub)/\
  (A++W++B).length<=(qC6 n (A++W++B) A.length).length+1/\meas qA2 (qC6 n (A++W++B) A.length)<=meas qA2 (A++W++B)+19:=by
  intro d;have e:qC6 n (A++W++B) A.length=A++W++B:=by
   obtain⟨a,r,rfl⟩:∃ a r,W=a::r:=by
    rcases o with⟨a,rfl,_⟩|⟨a,b,rfl,_⟩
    .exact⟨a,[],rfl⟩
    .exact⟨a,[b],rfl⟩
   have:(A++a::r++B)[A.length]?=some a:=sM
   unfold qC6;rw[this];simp[d a sM]
  rw[e];refine⟨h,rfl,?_,oM,oM⟩;intro x c;simp only[List.mem_append] at c;rcases c with (c|c)|c
  .exact f x c
  .exact d x c
  .exact g x c
 rcases o with⟨a,rfl,q,s,t⟩|⟨a,b,rfl,q,s,t,z,C⟩
 .by_cases d:3<=cnt n a.sub
  .exact k (λx c=>by rw[mS c];exact d)
  .clear k;have i:(A++[a]++B)[A.length]?=some a:=sM
   cases B with
   | cons b Q=>
    have j:min A.length ((A++[a]++b::Q).length-2)=A.length:=sO
    have u:(A++[a]++b::Q)[A.length+1]?=some b:=by
     rw[show A++[a]++b::Q=(A++[a])++b::Q from rfl,List.getElem?_append_right sM];simp
    have e:qC6 n (A++[a]++b::Q) A.length=A++qF8 n a.key a.sub b.sub++Q:=by
     unfold qC6;rw[i];simp only[d,if_false,j,i,u]
     congr 2
     .simp
     .rw[show A++[a]++b::Q=(A++[a,b])++Q by simp];exact List.drop_left' sM
    rw[e];have D:=g b sM;have:=xK6 (P:=A) (Q:=Q) (a:=a) (b:=b) (lo:=lo) (by simpa using h) f (λx c=>g x (by simp[c])) (.inl oM) oM oM;simpa using this
   | nil=>
    rcases List.eq_nil_or_concat A with rfl|⟨P,p,rfl⟩
    .simp at v
    .rw[List.concat_eq_append] at *;have j:min (P++[p]).length ((P++[p]++[a]++[]).length-2)=P.length:=sM
     have w:(P++[p]++[a]++[])[P.length]?=some p:=sM
     have y:(P++[p]++[a]++[])[P.length+1]?=some a:=sM
     have e:qC6 n (P++[p]++[a]++[]) (P++[p]).length=P++qF8 n p.key p.sub a.sub++[]:=by
      unfold qC6;rw[i];simp only[d,if_false,j,w,y]
      congr 2
      .simp
      .simp
     rw[e];have F:=f p sM;have:=xK6 (P:=P) (Q:=[]) (a:=p) (b:=a) (lo:=lo) (by simpa using h) (λx c=>f x (by simp[c])) sM (.inr oM) oM oM;simpa using this
 .exact k (λx c=>by
   simp only[mC,lN,or_false] at c;rcases c with rfl|rfl<;>assumption)
theorem qX6:∀ (n:Nat) (l) (k),Good n l.key l.sub->kl k l.key=false->l.key.size<=8->(∃ q∈cont n l.sub,q.k=k)->min n 1<cnt n l.sub->
  Row0 n l.key (qC8 n l k)/\(qC8 n l k).flatMap (λl=>cont n l.sub)=del k (cont n l.sub)/\Made n l 1 (qC8 n l k)
 | 0,l,k,h,hk,hz,c,D=>by
  have G:Sorted (prs l.sub):=h.sorted;have H:=(zN8 G k).2 c;have e:=(xB5 G H).symm;have p:meas θ (del k (prs l.sub))<=126:=by
   rw[<-e,qE2];have D:=qN6 θ (prs l.sub) (qB9 (prs l.sub) k);have s:=qN6 θ ((prs l.sub).drop (qB9 (prs l.sub) k)) 1;have E:meas θ (prs l.sub)<=126:=h.fits;rw[List.drop_drop] at s;omega
  obtain⟨r1,r2,r3⟩:=zA0 (lo:=l.key) (ps:=del k (prs l.sub)) (G.del k) (λq c=>h.all q (zH4.1 c).1) oM hz;have i:qC8 0 l k=qE1 l.key (del k (prs l.sub)):=by rw[<-e];rfl
  rw[i];refine⟨r1,r2,?_⟩;rcases r3 with⟨a,f,i,o,j⟩|⟨a,b,f,i,o,j,u,v⟩
  .refine .inl ⟨a,f,i,o,?_⟩;rw[j];show (prs l.sub).length<=(del k (prs l.sub)).length+1;rw[<-e];simp;omega
  .exact .inr ⟨a,b,f,i,o,j,u,v⟩
 | n+1,l,k,h,hk,hz,c,D=>by
  have s:1<(η l.sub).length:=by have s:min (n+1) 1<(η l.sub).length:=D;omega
  have K:Row0 n l.key (η l.sub):=⟨h.head,λm p=>⟨(h.all m p).1,(h.all m p).2.2⟩,h.pair⟩;obtain⟨A,m,B,e,y,X,I,Z⟩:=zC3 (k:=k) K (by intro e;rw[e] at s;simp at s) hk;have z:=λx d=>h.all x (by show x∈η l.sub;rw[e];exact d);have p:=z m sM;have J:=λb r q c=>qN3 (Z b r) ((qK5 n b.key b.sub (z b (by simp[r])).1).2 q c).2;have aa:∃ q∈cont n m.sub,q.k=k:=by
   obtain⟨q,c,C⟩:=c;have c:q∈(η l.sub).flatMap (λl=>cont n l.sub):=c;rw[e] at c;obtain⟨x,d,F⟩:=mF c;rcases mA d with d|d
   .exact absurd C (qI8 (I x d q F))
   .rcases List.mem_cons.1 d with rfl|d
    .exact⟨q,F,C⟩
    .exact absurd C.symm (qI8 (J x d q F))
  obtain⟨M,N,t⟩:=qX6 n m k p.1 X p.2.2 aa oM;have ac:∀ w∈qC8 n m k,1<=cnt n w.sub:=by
   rcases t with⟨a,f,_,_,j⟩|⟨a,b,f,_,_,_,u,v⟩
   .rw[f];intro w g;rw[mS g];omega
   .rw[f];intro w g;simp only[mC,lN,or_false] at g;rcases g with rfl|rfl<;>omega
  have L:Row0 n l.key (A++m::B):=by rw[<-e];exact K
  have Y:=pA L.pair;have H:=zI9 L M t.ne ac (λw g q c b r=>by
   have:q∈(qC8 n m k).flatMap (λl=>cont n l.sub):=List.mem_flatMap.2 ⟨w,g,c⟩;rw[N] at this;exact ((pC Y.2.1).1 b r).2 q (zH4.1 this).1)
  have af:=t.meas (λw g=>(M.all w g).2);have V:meas qA2 (A++m::B)<=126:=by have E:meas qA2 (η l.sub)<=126:=h.fits;rw[e] at E;exact E
  have ag:meas qA2 (A++qC8 n m k++B)<=145:=by
   rw[qE2,qE2];rw[qE2,qC2] at V;omega
  have ad:1<=(qC8 n m k).length:=List.length_pos_iff.2 t.ne;have ae:(η l.sub).length<=(A++qC8 n m k++B).length:=by rw[e];simp;omega
  obtain⟨R,S,T,d4,d5⟩:=xK7 (m:=m) H (λx d=>(z x (by simp[d])).2.1) (λx d=>(z x (by simp[d])).2.1) t p.2.1 oM;have g:qC8 (n+1) l k=qC9 n l.key (qC6 n (A++qC8 n m k++B) A.length):=by
   have W:(η l.sub)[qA8 (η l.sub) k]?=some m:=by rw[<-y,e];simp
   have ab:(η l.sub).take (qA8 (η l.sub) k)=A:=by rw[<-y,e];simp
   have U:(η l.sub).drop (qA8 (η l.sub) k+1)=B:=by
    rw[<-y,e,show A++m::B=(A++[m])++B by simp];exact List.drop_left' sM
   show (match (η l.sub)[qA8 (η l.sub) k]? with
    | some m=>qC9 n l.key (qC6 n ((η l.sub).take (qA8 (η l.sub) k)++qC8 n m k++(η l.sub).drop (qA8 (η l.sub) k+1)) (qA8 (η l.sub) k))
    | none=>[])=_
   rw[W,ab,U,y]
  rw[g];obtain⟨O,P,Q⟩:=zL9 R T oM hz;refine⟨O,?_,?_⟩
  .rw[P,S];show _=del k ((η l.sub).flatMap (λl=>cont n l.sub));rw[e];simp only[fA,N,fC];rw[<-aA,jF4 (λq c=>by obtain⟨a,ha,c⟩:=mF c;exact I a ha q c) (λq c=>by
    obtain⟨b,r,c⟩:=mF c;exact J b r q c)]
  .rcases Q with⟨a,f,i,o,j⟩|⟨a,b,f,i,o,j,u,v⟩
   .refine .inl ⟨a,f,i,o,?_⟩;rw[j];show (η l.sub).length<=(qC6 n (A++qC8 n m k++B) A.length).length+1;omega
   .exact .inr ⟨a,b,f,i,o,j,u,v⟩
def RGood:Root→Prop
 | .none=>True
 | .at n l=>l.key=⟨#[]⟩∧Good n l.key l.sub∧min n 1<cnt n l.sub
theorem zU4{n:Nat}{l}{d:Nat}{W}(i:l.key=⟨#[]⟩)(f:Row0 n l.key W)(u:Made n l d W)(v:min n 1<cnt n l.sub)(C:d<=1):
  RGood (qE6 n W)/\(qE6 n W).cont=W.flatMap (λl=>cont n l.sub):=by
 rcases u with⟨a,rfl,g,t,o⟩|⟨a,b,rfl,g,t,o,w,z⟩
 .have h:=f.all a sM;have e:qE6 n [a]=qM6 n a:=rfl;rw[e]
  cases n with
  | zero=>
   have k:[a].flatMap (λl=>cont 0 l.sub)=prs a.sub:=aN _;rw[k];show RGood (match prs a.sub with | []=>.none | _::_=>.at 0 a)/\Root.cont (match prs a.sub with | []=>.none | _::_=>.at 0 a)=_
   cases hp:prs a.sub with
   | nil=>exact⟨trivial,rfl⟩
   | cons x r=>
    refine⟨⟨by rw[g,i],h.1,?_⟩,hp⟩;show 0<(prs a.sub).length;rw[hp];simp
  | succ n=>
   have k:[a].flatMap (λl=>cont (n+1) l.sub)=(η a.sub).flatMap λl=>cont n l.sub:=aN _;rw[k];have q:(η l.sub).length<=(η a.sub).length+d:=o;have B:1<(η l.sub).length:=by have j:min (n+1) 1<(η l.sub).length:=v;omega
   show RGood (match η a.sub with | []=>.none | [m]=>.at n m | _::_::_=>.at (n+1) a)/\Root.cont (match η a.sub with | []=>.none | [m]=>.at n m | _::_::_=>.at (n+1) a)=_
   cases hp:η a.sub with
   | nil=>rw[hp] at q;simp at q;omega
   | cons x r=>
    cases r with
    | nil=>
     have p:=h.1.all x (by show x∈η a.sub;rw[hp];simp);have c:=h.1.head x (by show x∈(η a.sub).head?;rw[hp];simp);refine⟨⟨by rw[c,g,i],p.1,by have:=p.2.1;omega⟩,(aN _).symm⟩
    | cons y r=>
     refine⟨⟨by rw[g,i],h.1,?_⟩,?_⟩
     .show min (n+1) 1<(η a.sub).length;rw[hp];simp
     .show (η a.sub).flatMap (λl=>cont n l.sub)=_;rw[hp]
 .have A:=f.all b sM;have j:meas qA2 [a,b]<=126:=by
   have:=(f.all a sM).2;simp[meas,qA2];omega
  have e:qC9 n ⟨#[]⟩ [a,b]=[⟨⟨#[]⟩,none,[a,b]⟩]:=by
   unfold qC9 qB8;rw[if_pos j];rfl
  have s:qE6 n [a,b]=.at (n+1) ⟨⟨#[]⟩,none,[a,b]⟩:=by
   show (match qC9 n ⟨#[]⟩ [a,b] with | []=>Root.none | r::_=>qM6 (n+1) r)=_;rw[e];rfl
  rw[s];refine⟨⟨rfl,⟨?_,?_,f.pair,j⟩,?_⟩,rfl⟩
  .intro x c;have:x=a:=by simpa using c.symm
   rw[this,g,i]
  .intro x c;refine⟨(f.all x c).1,?_,(f.all x c).2⟩;have c:x∈[a,b]:=c;simp only[mC,lN,or_false] at c;rcases c with rfl|rfl<;>assumption
  .show min (n+1) 1<2;omega
theorem zS4{r}{p}(h:RGood r)(i:qC3 p):RGood (r.put p)/\(r.put p).cont=ins p r.cont:=by
 cases r with
 | none=>
  have t:Sorted [p]:=by simp[Sorted]
  have u:(⟨#[]⟩:ByteArray).size<=8:=dC
  obtain⟨v,w,x⟩:=zA0 (lo:=⟨#[]⟩) (ps:=[p]) t (λq hq=>by rw[mS hq];exact⟨i,qN2 _⟩) (by obtain⟨c,j,k⟩:=i;simp[meas,θ];omega) u;have s:Made 0 ⟨⟨#[]⟩,none,[p]⟩ 0 (qE1 ⟨#[]⟩ [p]):=by
   rcases x with⟨a,d,e,f,g⟩|⟨a,b,d,e,f,g,m,o⟩
   .exact .inl ⟨a,d,e,f,by rw[g];exact lR⟩
   .exact .inr ⟨a,b,d,e,f,g,m,o⟩
  have:=zU4 (n:=0) (l:=(⟨⟨#[]⟩,none,[p]⟩:Lnk (List KV))) rfl v s (by show 0<1;omega) oM;rw[w] at this;refine⟨this.1,this.2.trans ?_⟩;simp[ins,Root.cont]
 | «at» n l=>
  obtain⟨c,j,k⟩:=h;obtain⟨y,z,A⟩:=zC4 n l p j i (by rw[c];exact qN2 _) (by rw[c];decide) oM;have:=zU4 c y A k oM;rw[z] at this;exact this
theorem xB4{r}{k}(h:RGood r):RGood (r.del k)/\(r.del k).cont=del k r.cont:=by
 cases r with
 | none=>exact⟨trivial,rfl⟩
 | «at» n l=>
  obtain⟨a,d,c⟩:=h;unfold Root.del;by_cases b:(cont n l.sub).any (λq=>decide (q.k=k))=true
  .simp only[b,if_true];have e:∃ q∈cont n l.sub,q.k=k:=by simpa using b
   obtain⟨f,g,i⟩:=qX6 n l k d (by rw[a];exact qN2 _) (by rw[a];decide) e c;have:=zU4 a f i c oM;rw[g] at this;exact this
  .simp only[b];refine⟨⟨a,d,c⟩,?_⟩;have:∀ q∈cont n l.sub,q.k≠k:=by simpa using b
   exact (qY9 this).symm
def qB1:(n:Nat)→Tn n→Nat
 | 0,_=>1
 | n+1,ls=>1+meas (fun l:Lnk (Tn n)=>qB1 n l.sub) ls
def news:(n:Nat)→Lnk (Tn n)→Nat
 | 0,l=>if l.ref.isSome then 0 else 1
 | n+1,l=>if l.ref.isSome then 0 else 1+meas (fun m:Lnk (Tn n)=>news n m) (η l.sub)
def Root.news:Root→Nat
 | .none=>0
 | .at n l=>YtdohpenfkdckiaaGreatDoor.news n l
theorem zQ5{α:Type}{f g:α->Nat}:∀ (l:List α),(∀ x∈l,f x<=g x)->meas f l<=meas g l
 | [],_=>lR
 | x::l,h=>by
  rw[qC2,qC2];have:=h x sM;have:=zQ5 l λy a=>h y (by simp[a]);omega
theorem zQ9:∀ (n:Nat) (l),news n l<=qB1 n l.sub
 | 0,l=>by unfold news qB1;split<;>omega
 | n+1,l=>by
  unfold news qB1;split
  .omega
  .have:=zQ5 (f:=λm:Lnk (Tn n)=>news n m) (g:=λm=>qB1 n m.sub) (η l.sub) λm _=>zQ9 n m;show 1+_<=1+meas _ (η l.sub);omega
theorem zA7:∀ (n:Nat) (lo) (t),Good n lo t->2*qB1 n t+cnt n t<=(cont n t).length+2
 | 0,lo,ps,h=>by show 2*1+(prs ps).length<=(prs ps).length+2;omega
 | n+1,lo,ls,h=>by
  have key:∀ (ls),(∀ l∈ls,Good n l.key l.sub/\3<=cnt n l.sub)->2*meas (λl:Lnk (Tn n)=>qB1 n l.sub) ls+ls.length<=(ls.flatMap λl=>cont n l.sub).length:=by
   intro ls
   induction ls with
   | nil=>intro _;simp[meas]
   | cons a ls ih=>
    intro c;have d:=ih λl b=>c l (by simp[b]);have e:=zA7 n a.key a.sub (c a sM).1;have f:=(c a sM).2;rw[qC2,fC,lA,lC];omega
  have:=key (η ls) λl b=>⟨(h.all l b).1,(h.all l b).2.1⟩;show 2*(1+meas _ (η ls))+(η ls).length<=((η ls).flatMap λl=>cont n l.sub).length+2;omega
theorem xJ1:∀ (n:Nat) (lo) (t),Good n lo t->1<=cnt n t->n+1<=qB1 n t
 | 0,lo,ps,h,_=>by show 1<=1;omega
 | n+1,lo,ls,h,h1=>by
  have b:1<=(η ls).length:=h1;obtain⟨a,r,e⟩:∃ a r,η ls=a::r:=by
   cases hx:η ls with
   | nil=>rw[hx] at b;simp at b
   | cons a r=>exact⟨a,r,rfl⟩
  have c:=h.all a (by show a∈η ls;rw[e];simp);have:=xJ1 n a.key a.sub c.1 oM;show n+1+1<=1+meas _ (η ls);rw[e,qC2];omega
theorem qX1{r}(h:RGood r):2*r.news<=r.cont.length+1:=by
 cases r with
 | none=>simp[Root.news]
 | «at» n l=>
  obtain⟨d,c,e⟩:=h;have a:=zA7 n l.key l.sub c;have b:=zQ9 n l;show 2*news n l<=(cont n l.sub).length+1;omega
theorem zS8{n:Nat}{l}(h:RGood (.at n l)):2*n<=(cont n l.sub).length:=by
 obtain⟨d,c,e⟩:=h;have a:=zA7 n l.key l.sub c;have b:=xJ1 n l.key l.sub c oM;omega
theorem zS9{r}(h:RGood r):Sorted r.cont/\∀ q∈r.cont,qC3 q:=by
 cases r with
 | none=>exact⟨List.Pairwise.nil,λq a=>by cases a⟩
 | «at» n l=>
  obtain⟨c,b,d⟩:=h;exact⟨(qK5 n l.key l.sub b).1,λq a=>((qK5 n l.key l.sub b).2 q a).1⟩
def Up(f:ByteArray→Bool):Prop:=∀ a b,kl a b=true→f a=true→f b=true
theorem jI3{l:List KV}{f:ByteArray->Bool}(h:∀ q∈l,f q.k=false):l.find? (λq=>f q.k)=none:=by
 rw[List.find?_eq_none];intro q a;simp[h q a]
theorem jJ4{n:Nat}{lo}{f:ByteArray->Bool}(k:Up f){ls}(h:Row0 n lo ls):
  (ls.flatMap λl=>cont n l.sub).find? (λq=>f q.k)=((ls.drop (ls.findIdx (λl=>f l.key)-1)).flatMap λl=>cont n l.sub).find? (λq=>f q.k):=by
 by_cases g:ls.findIdx (λl=>f l.key)=0
 .simp[g]
 .obtain⟨i,m⟩:=eX (ls.findIdx (λl=>f l.key)-1);rw[<-m];have s:ls.findIdx (λl=>f l.key)<=ls.length:=fL;have o:i<ls.length:=oM
  have c:f (ls[i]).key=false:=by
   have:=List.not_of_lt_findIdx (p:=λl:Lnk (Tn n)=>f l.key) (xs:=ls) (i:=i) oM;simpa using this
  have d:=h.pair;rw[<-tD i ls,dG o] at d;have r:=(pA d).2.2
  conv=>lhs;rw[<-tD i ls,fA,List.find?_append]
  rw[jI3 λq b=>?_]
  .simp
  .obtain⟨a,j,b⟩:=mF b;have:=(r a j ls[i] (List.mem_cons_self ..)).2 q b;by_cases e:f q.k=true
   .rw[k _ _ this e] at c;cases c
   .simpa using e
end Go.Proofs.YtdohpenfkdckiaaGreatDoor
