import Derived.Test.YtdohpenfkdckiabGreatDoorF05
set_option linter.all false
set_option maxRecDepth 100000
set_option maxHeartbeats 20000000
namespace Go.Proofs.YtdohpenfkdckiabGreatDoor
open Go.Proofs.Tryz
open Go.RowKit
def Blk:(n:Nat)→Nat→Tn n→List Nat
 | 0,b,_=>[b]
 | n+1,b,t=>b::(η t).flatMap (fun m=>match m.ref with | some x=>Blk n x.1 m.sub | none=>[])
theorem Laid.move{N:Nat}{l l':List UInt8}:∀ (n b:Nat) (s:Int) (t:Tn n),Laid N l n b s t→(∀ k∈Blk n b t,ι l' k=ι l k)→Laid N l' n b s t
 | 0,b,s,t,h,hk=>by
  obtain⟨h1,h2,h3,h4,h5⟩:=h;exact⟨h1,h2,h3,(hk b (by simp[Blk])).trans h4,h5⟩
 | n+1,b,s,t,h,hk=>by
  obtain⟨h1,h2,h3,hs,h4,h5,h6,h7⟩:=h;refine⟨h1,h2,h3,hs,⟨h4.1,fun i g1 g2=>?_⟩,h5,(hk b (by simp[Blk])).trans h6,h7⟩;have hr:=h4.2 i g1 g2;refine⟨hr.1,?_⟩;have hr2:=hr.2
  cases hx:(η t)[i].ref with
  | none=>rw[hx] at hr2;exact hr2
  | some x=>
   rw[hx] at hr2;refine⟨hr2.1,hr2.2.1,hr2.2.2.1,Laid.move n x.1 x.2 _ hr2.2.2.2 (fun k hm=>hk k ?_)⟩;simp only[Blk,List.mem_cons,List.mem_flatMap];exact Or.inr ⟨(η t)[i],List.getElem_mem g2,by rw[hx];exact hm⟩
theorem qW5(l b:List UInt8)(i k n:Nat)(hb:b.length=128)(hl:n*128≤l.length)(hi:i<n)(hk:k≠i):ι (qC8 l i b) k=ι l k:=by
 refine List.ext_getElem? fun j=>?_;simp only[ι,qC8,List.getElem?_take,List.getElem?_drop];split
 ·rename_i hj;rw[List.append_assoc,List.getElem?_append];split
  ·rename_i h1;rw[List.getElem?_take];simp only[List.length_take] at h1;rw[if_pos (by omega)]
  ·rename_i h1;simp only[List.length_take] at h1 ⊢;rw[List.getElem?_append,if_neg (by omega),List.getElem?_drop]
   congr 1
   omega
 ·rfl
theorem qW6(l b:List UInt8)(i n:Nat)(hb:b.length=128)(hl:n*128≤l.length)(hi:i<n):ι (qC8 l i b) i=b:=by
 exact zG3 l i b hb (by omega)
theorem zQ3(n k:Nat)(ws:List (Nat × List UInt8)):∀ (l:List UInt8),n*128≤l.length→(∀ x∈ws,x.1<n∧x.2.length=128)→k ∉ ws.map Prod.fst→ι (laidAll l ws) k=ι l k:=by
 induction ws with
 | nil=>intro l _ _ _;rfl
 | cons a ws ih=>
  intro l hl hw hk;simp only[List.map_cons,List.mem_cons,not_or] at hk;have h1:=hw a (by simp);refine (ih (qC8 l a.1 a.2) (qV4 l a.2 a.1 n h1.2 hl h1.1) (fun x hx=>hw x (by simp[hx])) hk.2).trans ?_;exact qW5 l a.2 a.1 k n h1.2 hl h1.1 hk.1
theorem xQ5(n:Nat)(ws:List (Nat × List UInt8))(x:Nat × List UInt8):∀ (l:List UInt8),n*128≤l.length→(∀ x∈ws,x.1<n∧x.2.length=128)→(ws.map Prod.fst).Nodup→x∈ws→ι (laidAll l ws) x.1=x.2:=by
 induction ws with
 | nil=>intro l _ _ _ h;cases h
 | cons a ws ih=>
  intro l hl hw hn hx;simp only[List.map_cons,List.nodup_cons] at hn;have h1:=hw a (by simp);have hl2:=qV4 l a.2 a.1 n h1.2 hl h1.1;rcases List.mem_cons.1 hx with rfl|hx
  ·exact (zQ3 n x.1 ws (qC8 l x.1 x.2) hl2 (fun y hy=>hw y (by simp[hy])) hn.1).trans (qW6 l x.2 x.1 n h1.2 hl h1.1)
  ·exact ih (qC8 l a.1 a.2) hl2 (fun y hy=>hw y (by simp[hy])) hn.2 hx
def qL2(N:Nat)(l:List UInt8):(n:Nat)→Lnk (Tn n)→Prop
 | 0,L=>∀ x,L.ref=some x→Laid N l 0 x.1 x.2 L.sub
 | n+1,L=>(∀ x,L.ref=some x→Laid N l (n+1) x.1 x.2 L.sub)∧(L.ref=none→∀ m∈η L.sub,qL2 N l n m)
def qI6:(n:Nat)→Lnk (Tn n)→List Nat
 | 0,L=>match L.ref with | some x=>Blk 0 x.1 L.sub | none=>[]
 | n+1,L=>match L.ref with | some x=>Blk (n+1) x.1 L.sub | none=>(η L.sub).flatMap (qI6 n)
def zO4(N:Nat)(l l':List UInt8)(n:Nat):Prop:=∀ (L:Lnk (Tn n)) (fr:List Nat),qL2 N l n L→OkL n L→n<6→(∀ b∈fr,2≤b∧b<N)→news n L≤fr.length→(∀ x∈(qA0 n L fr).2.1,ι l' x.1=x.2)→(∀ k∈qI6 n L,ι l' k=ι l k)→
 ∃ x,(qA0 n L fr).1.ref=some x∧Laid N l' n x.1 x.2 (qA0 n L fr).1.sub
theorem zW3(N:Nat)(l l':List UInt8)(n:Nat)(IH:zO4 N l l' n)(hn:n<6):∀ (ls:List (Lnk (Tn n))) (fr:List Nat),(∀ m∈ls,qL2 N l n m∧OkL n m)→(∀ b∈fr,2≤b∧b<N)→meas (news n) ls≤fr.length→(∀ x∈(qB3 (qA0 n) ls fr).2.1,ι l' x.1=x.2)→(∀ k∈ls.flatMap (qI6 n),ι l' k=ι l k)→
  ∀ m∈(qB3 (qA0 n) ls fr).1,∃ x,m.ref=some x∧Laid N l' n x.1 x.2 m.sub
 | [],_,_,_,_,_,_=>by intro m hm;cases hm
 | a::ls,fr,h,hf,hm,hx,hk=>by
  rw[qE0] at hm;intro m hmm;simp only[qB3,List.mem_cons] at hmm;simp only[qB3,List.mem_append] at hx;rcases hmm with rfl|hmm
  ·exact IH a fr (h a (by simp)).1 (h a (by simp)).2 hn hf (by omega) (fun x hh=>hx x (Or.inl hh)) (fun k hh=>hk k (by simp only[List.flatMap_cons,List.mem_append];exact Or.inl hh))
  ·have e:=qN9 n a fr;exact zW3 N l l' n IH hn ls _ (fun m hm=>h m (by simp[hm])) (fun b hb=>by rw[e] at hb;exact hf b (List.mem_of_mem_drop hb)) (by rw[e,List.length_drop];omega) (fun x hh=>hx x (Or.inr hh)) (fun k hh=>hk k (by simp only[List.flatMap_cons,List.mem_append];exact Or.inr hh)) m hmm
theorem jL1{n:Nat}{m:Lnk (Tn n)}(h:OkL n m):m.key.size≤8:=by
 cases n with
 | zero=>exact h.1
 | succ n=>exact h.1
theorem zW7(n:Nat):∀ (ls:List (Lnk (Tn n))) (fr:List Nat),(∀ m∈ls,m.key.size≤8)→∀ m∈(qB3 (qA0 n) ls fr).1,m.key.size≤8
 | [],_,_=>by intro m hm;cases hm
 | a::ls,fr,h=>by
  intro m hm;simp only[qB3,List.mem_cons] at hm;rcases hm with rfl|hm
  ·rw[zW9];exact h a (by simp)
  ·exact zW7 n ls _ (fun m hm=>h m (by simp[hm])) m hm
theorem Laid.leaf{N b:Nat}{l:List UInt8}{t:Tn 0}(h1:2≤b∧b<N)(h4:ι l b=toB (qA1 0 (prs t) []))(h5:(∀ p∈prs t,qC3 p)∧2+meas ν (prs t)≤128∧(prs t).length≤126):Laid N l 0 b (fnv (qA1 0 (prs t) [])) t:=⟨h1.1,h1.2,Eq.refl _,h4,h5⟩
theorem Laid.branch{N b n:Nat}{l:List UInt8}{t:Tn (n+1)}(hs:List HL)(h1:2≤b∧b<N)(h2:n+1<6)(h3:Both (RLof (fun _ _=>False) (Laid N l n)) hs (η t))(h4:ι l b=toB (qA1 ((n+1:Nat):Int) [] hs))(h5:(∀ h∈hs,h.key.size≤8)∧2+meas ψ hs≤128∧hs.length≤126):Laid N l (n+1) b (fnv (qA1 ((n+1:Nat):Int) [] hs)) t:=⟨h1.1,h1.2,h2,hs,h3,Eq.refl _,h4,h5⟩
theorem jI3{X:Type}(m:Lnk X)(x:Nat × Int)(h:m.ref=some x):(lhl m).b=(x.1:Int)∧(lhl m).s=x.2:=by
 simp only[lhl,h,Option.getD_some,and_self]
theorem zW4(N:Nat)(l l':List UInt8):∀ n,zO4 N l l' n
 | 0=>by
  intro L fr ho hok _ hf hn hx hk
  cases hr:L.ref with
  | some x=>
   have hs:L.ref.isSome:=by rw[hr];rfl
   have e:qA0 0 L fr=(L,[],fr):=by simp only[qA0,if_pos hs]
   rw[e];refine⟨x,hr,Laid.move 0 x.1 x.2 L.sub (ho x hr) (fun k hm=>hk k ?_)⟩;simp only[qI6,hr];exact hm
  | none=>
   have hns:¬L.ref.isSome=true:=by rw[hr];simp
   have h1:news 0 L=1:=by simp only[news,if_neg hns]
   cases fr with
   | nil=>rw[h1] at hn;simp at hn
   | cons b fr=>
    have e:qA0 0 L (b::fr)=(⟨L.key,some (b,fnv (qA1 0 (prs L.sub) [])),L.sub⟩,[(b,toB (qA1 0 (prs L.sub) []))],fr):=by simp only[qA0,if_neg hns,List.headD_cons,List.tail_cons]
    rw[e] at hx ⊢;obtain⟨z1,z2,z3⟩:=hok.2 hr;have hbx:=hx (b,toB (qA1 0 (prs L.sub) [])) (List.mem_singleton.2 rfl);have hL:Laid N l' 0 b (fnv (qA1 0 (prs L.sub) [])) L.sub:=Laid.leaf (hf b (by simp)) hbx ⟨z1,z2,z3⟩;generalize fnv (qA1 0 (prs L.sub) [])=s at hL ⊢;exact⟨(b,s),rfl,hL⟩
 | n+1=>by
  intro L fr ho hok hlv hf hn hx hk
  cases hr:L.ref with
  | some x=>
   have hs:L.ref.isSome:=by rw[hr];rfl
   have e:qA0 (n+1) L fr=(L,[],fr):=by simp only[qA0,if_pos hs]
   rw[e];refine⟨x,hr,Laid.move (n+1) x.1 x.2 L.sub (ho.1 x hr) (fun k hm=>hk k ?_)⟩;simp only[qI6,hr];exact hm
  | none=>
   have hns:¬L.ref.isSome=true:=by rw[hr];simp
   have h1:news (n+1) L=1+meas (news n) (η L.sub):=by simp only[news,if_neg hns]
   have hfree:=qP9 (qA0 n) (news n) (η L.sub) fr (fun l _ fr=>qN9 n l fr);obtain⟨z1,z2,z3,z4⟩:=hok.2 hr
   cases hfr:(qB3 (qA0 n) (η L.sub) fr).2.2 with
   | nil=>
    have h2:=congrArg List.length hfree;rw[hfr,List.length_drop] at h2;simp at h2;omega
   | cons b fr'=>
    have e:qA0 (n+1) L fr=(⟨L.key,some (b,fnv (qA1 ((n+1:Nat):Int) [] ((qB3 (qA0 n) (η L.sub) fr).1.map lhl))),(qB3 (qA0 n) (η L.sub) fr).1⟩,(qB3 (qA0 n) (η L.sub) fr).2.1++[(b,toB (qA1 ((n+1:Nat):Int) [] ((qB3 (qA0 n) (η L.sub) fr).1.map lhl)))],fr'):=by
     simp only[qA0,if_neg hns,hfr,List.headD_cons,List.tail_cons]
    rw[e] at hx ⊢;have hb:b∈fr:=by rw[hfr] at hfree;exact List.mem_of_mem_drop (hfree ▸ List.mem_cons_self)
    have hall:=zW3 N l l' n (zW4 N l l' n) (by omega) (η L.sub) fr (fun m hm=>⟨ho.2 hr m hm,z2 m hm⟩) hf (by omega) (fun x hh=>hx x (List.mem_append_left _ hh)) (fun k hh=>hk k (by simp only[qI6,hr];exact hh));have hkeys:=zW7 n (η L.sub) fr (fun m hm=>jL1 (z2 m hm));have hms:=zD1 n (η L.sub) fr;have hlen:=zI4 (qA0 n) (η L.sub) fr;have hbx:=hx (b,toB (qA1 ((n+1:Nat):Int) [] ((qB3 (qA0 n) (η L.sub) fr).1.map lhl))) (List.mem_append_right _ (List.mem_singleton.2 rfl));generalize qB3 (qA0 n) (η L.sub) fr=R at hall hkeys hms hlen hbx ⊢;have hL:Laid N l' (n+1) b (fnv (qA1 ((n+1:Nat):Int) [] (R.1.map lhl))) R.1:=by
     refine Laid.branch (R.1.map lhl) (hf b hb) hlv ⟨by rw[List.length_map];rfl,fun i g1 g2=>?_⟩ hbx ⟨?_,by rw[hms];exact z3,by rw[List.length_map,hlen];exact z4⟩
     ·rw[List.getElem_map];obtain⟨x,e1,e2⟩:=hall _ (List.getElem_mem g2);refine⟨rfl,?_⟩;have e3:((η (n:=n) R.1)[i]'g2).ref=some x:=e1;rw[e3];have e4:=jI3 _ x e1;exact⟨e4.1,e4.2,rfl,e2⟩
     ·intro p hp;obtain⟨m,hm,rfl⟩:=List.mem_map.1 hp;exact hkeys m hm
    clear hx hbx;generalize fnv (qA1 ((n+1:Nat):Int) [] (R.1.map lhl))=s at hL ⊢;exact⟨(b,s),rfl,hL⟩
theorem zW6{X:Type}(f:Lnk X→List Nat→Lnk X × List (Nat × List UInt8) × List Nat)(g:Lnk X→Nat):∀ (ls:List (Lnk X)) (fr:List Nat),(∀ l∈ls,∀ fr:List Nat,g l≤fr.length→(f l fr).2.1.map Prod.fst=fr.take (g l)∧(f l fr).2.2=fr.drop (g l))→meas g ls≤fr.length→(qB3 f ls fr).2.1.map Prod.fst=fr.take (meas g ls)
 | [],fr,_,_=>by simp[qB3,qC9]
 | l::ls,fr,h,hm=>by
  rw[qE0] at hm ⊢;obtain⟨h1,h2⟩:=h l (by simp) fr (by omega);simp only[qB3,List.map_append];rw[zW6 f g ls _ (fun x hx=>h x (by simp[hx])) (by rw[h2,List.length_drop];omega),h1,h2,List.take_add]
theorem zI8:∀ (n:Nat) (l:Lnk (Tn n)) (fr:List Nat),news n l≤fr.length→(qA0 n l fr).2.1.map Prod.fst=fr.take (news n l)
 | 0,l,fr,h=>by
  by_cases hr:l.ref.isSome=true
  ·simp only[qA0,news,if_pos hr,List.map_nil,List.take_zero]
  ·simp only[qA0,news,if_neg hr] at h ⊢
   cases fr with
   | nil=>simp at h
   | cons b fr=>simp
 | n+1,l,fr,h=>by
  by_cases hr:l.ref.isSome=true
  ·simp only[qA0,news,if_pos hr,List.map_nil,List.take_zero]
  ·simp only[qA0,news,if_neg hr] at h ⊢;have h1:=zW6 (qA0 n) (news n) (η l.sub) fr (fun l _ fr hl=>⟨zI8 n l fr hl,qN9 n l fr⟩) (by have:meas (fun m=>news n m) (η l.sub)=meas (news n) (η l.sub):=rfl;omega);have h2:=qP9 (qA0 n) (news n) (η l.sub) fr (fun l _ fr=>qN9 n l fr);rw[List.map_append,h1,h2];simp only[List.map_cons,List.map_nil];have e:meas (fun m=>news n m) (η l.sub)=meas (news n) (η l.sub):=rfl;rw[e] at h ⊢;generalize meas (news n) (η l.sub)=k at h ⊢;rw[Nat.add_comm 1 k,List.take_succ_eq_append_getElem (by omega),List.drop_eq_getElem_cons (by omega)];rfl
theorem zI9:∀ (n:Nat) (l:Lnk (Tn n)) (fr:List Nat),OkL n l→∀ x∈(qA0 n l fr).2.1,x.2.length=128
 | 0,l,fr,h,x,hx=>by
  by_cases hr:l.ref.isSome=true
  ·simp[qA0,if_pos hr] at hx
  ·simp only[qA0,if_neg hr,List.mem_singleton] at hx;obtain⟨z1,z2,z3⟩:=h.2 (by simpa using hr);rw[hx];simp only[qH1];exact qO8 0 _ [] (by simpa [qC9] using z2)
 | n+1,l,fr,h,x,hx=>by
  by_cases hr:l.ref.isSome=true
  ·simp[qA0,if_pos hr] at hx
  ·simp only[qA0,if_neg hr,List.mem_append,List.mem_singleton] at hx;obtain⟨z1,z2,z3,z4⟩:=h.2 (by simpa using hr);rcases hx with hx|hx
   ·have go:∀ (ls:List (Lnk (Tn n))) (fr:List Nat),(∀ m∈ls,OkL n m)→∀ x∈(qB3 (qA0 n) ls fr).2.1,x.2.length=128:=by
     intro ls
     induction ls with
     | nil=>intro fr _ x hx;simp[qB3] at hx
     | cons a ls ih=>
      intro fr hk x hx;simp only[qB3,List.mem_append] at hx;rcases hx with hx|hx
      ·exact zI9 n a fr (hk a (by simp)) x hx
      ·exact ih _ (fun m hm=>hk m (by simp[hm])) x hx
    exact go _ fr z2 x hx
   ·rw[hx];simp only[qH1];exact qO8 _ [] _ (by rw[zD1,qC9];omega)
theorem zI7:∀ (n:Nat) (l:Lnk (Tn n)) (fr:List Nat),cont n (qA0 n l fr).1.sub=cont n l.sub
 | 0,l,fr=>by
  by_cases hr:l.ref.isSome=true
  ·simp only[qA0,if_pos hr]
  ·simp only[qA0,if_neg hr]
 | n+1,l,fr=>by
  by_cases hr:l.ref.isSome=true
  ·simp only[qA0,if_pos hr]
  ·simp only[qA0,if_neg hr];have go:∀ (ls:List (Lnk (Tn n))) (fr:List Nat),(qB3 (qA0 n) ls fr).1.flatMap (fun m=>cont n m.sub)=ls.flatMap (fun m=>cont n m.sub):=by
    intro ls
    induction ls with
    | nil=>intro fr;rfl
    | cons a ls ih=>
     intro fr;simp only[qB3,List.flatMap_cons,ih,zI7 n a fr]
   exact go _ fr
end Go.Proofs.YtdohpenfkdckiabGreatDoor
namespace Go.Proofs.YtdohpenfkdckiabGreatDoor
open Go.Proofs.Tryz
open Go.RowKit
open Go.Maps (Keyed)
open Go.ChangeMaps
def qS8(k:Nat):Lit:=.int .i64 (k:Int)
theorem zV6{k:Nat}(h:k≤1000000):keyOf prog 3 (.int .i64 (k:Int))=some (qS8 k):=
 Maps.keyOf_int_mk underlying3 (by simp[Lit.wf,IntKind.min,IntKind.max,IntKind.signed,IntKind.bits];omega)
theorem zI1:Keyed prog 3:=Maps.int_keyed underlying3
theorem jD4(k:Nat):WideAt.IsKeyLit (qS8 k):=by simp[WideAt.IsKeyLit,qS8]
theorem jD5{a b:Nat}(h:a≠b):qS8 a≠qS8 b:=by
 intro e;simp only[qS8,Lit.int.injEq,true_and] at e;omega
def BS(w:World)(M c:Nat)(ks:List Nat):Prop:=∃ n D,w.ownsMap prog 3 (unitElem (H:=Unit)) M n D∧n≤c∧Maps.size D=ks.length∧∀ k:Nat,Maps.has D (qS8 k)=decide (k∈ks)
theorem BS.made(w:World):BS (w.alloc (.map #[] 0)) w.heap.size 0 []:=⟨0,.map [],World.ownsMap_made w _ _ _,Nat.le_refl _,rfl,fun k=>by simp[Maps.has]⟩
theorem BS.kp{S:List Nat}{w w':World}{M c:Nat}{ks:List Nat}(h:BS w M c ks)(hK:Kp S w w')(hM:M ∉ S):BS w' M c ks:=by
 obtain⟨n,D,⟨es,cl,hb,hf⟩,h2⟩:=h;exact⟨n,D,⟨es,cl,hK.heap hb hM,hf⟩,h2⟩
theorem BS.len{w:World}{M c:Nat}{ks:List Nat}(h:BS w M c ks)(ty:TypeId):(Builtin.len_ #[171] ty #[.map (some M)]).run prog w=.ok (.int .i64 (ks.length:Int)) w:=by
 obtain⟨n,D,h1,h2,h3,h4⟩:=h;rw[←h3];exact World.ownsMap.len h1 underlying171 ty
theorem BS.store{w:World}{M c b:Nat}{ks:List Nat}(h:BS w M c ks)(hb:b≤1000000)(hc:c≤1000000):
  ∃ w',(Instr.mapUpdate 171 (.map (some M)) (.int .i64 (b:Int)) (.agg #[])).run prog w=.ok () w'∧BS w' M (c+1) (if b∈ks then ks else b::ks)∧Kp [M] w w':=by
 obtain⟨n,D,h1,h2,h3,h4⟩:=h;obtain⟨w',g1,g2,g3⟩:=World.ownsMap.store h1 zI1 underlying171 (by simp[maxLen];omega) (zV6 hb) (unitElem_mk (H:=Unit));refine⟨w',g1,⟨n+1,_,g2,by omega,?_,fun k=>?_⟩,Kp.turned g3⟩
 ·rw[Maps.size_put (h1.tidy zI1),h4 b,h3];by_cases hm:b∈ks<;>simp[hm]
 ·by_cases hk:k=b
  ·rw[hk,Maps.has_put_same h1.isMap (jD4 b)];by_cases hm:b∈ks<;>simp[hm]
  ·rw[Maps.has_put_other (jD5 hk),h4 k];by_cases hm:b∈ks<;>simp[hm,hk]
theorem BS.look{w:World}{M c k:Nat}{ks:List Nat}(h:BS w M c ks)(hk:k≤1000000):
  (Instr.lookup 171 (.map (some M)) (.int .i64 (k:Int)) true).run prog w=.ok (.tuple #[.agg #[],.bool (decide (k∈ks))]) w:=by
 obtain⟨n,D,h1,h2,h3,h4⟩:=h;obtain⟨v,ps,g1,g2⟩:=World.ownsMap.look_ok h1 zI1 underlying171 (z:=.agg #[]) (by kernel_rfl) (unitElem_mk (H:=Unit)) (zV6 hk);obtain⟨rfl,_⟩:=unitElem_inv g2;rw[g1,h4]
def zC1(ks:List Nat)(b:Nat):List Nat:=if b∈ks then ks else b::ks
theorem xR4(M c b:Nat)(ks:List Nat)(h:HL)(w:World)(hM:BS w M c ks)(hp:h.p=none)(hb:h.b=(b:Int))(hb1:b≤1000000)(hc:c≤1000000)(hk:ks.length≤1000000):
  Calls prog 144 #[.map (some M),qC5 h] w fun e w'=>e=.returned (.bool (decide (b ∉ ks)))∧BS w' M (c+1) (zC1 ks b)∧Kp [M] w w':=by
 have hptr:h.ptr=none:=by simp[HL.ptr,hp]
 obtain⟨n,D,⟨es,cl,hmb,hf⟩,h2⟩:=hM;have hMs:=ζ hmb;have HM:Hid (BS w M c ks):=⟨n,D,⟨es,cl,hmb,hf⟩,h2⟩;rw[qC5,hptr,hb];obtain⟨w0,hw0,hL0,hK0,hs0⟩:=qE8 w (.cells #[.string h.key,.int .i64 (b:Int),.int .u64 h.s,.pointer none] 81);have hM0:=HM.out.kp hK0 (by simp);have hlen:=hM0.len 3;obtain⟨w1,hr1,hM1,hK1⟩:=hM0.store hb1 hc;have hlen1:=hM1.len 3;clear hmb hf h2;go_enter func144,ntmps144;go_wp2_with fail;rw[←hw0,hlen];have hLs:=ζ hL0;have c1:=ξ hL0 1;simp only[zG,zH,zI] at c1;have HL:=zh hk;obtain⟨k0,hk0⟩:∃ k0,k0=ks.length:=⟨_,rfl⟩;obtain⟨k1,hk1⟩:∃ k1,k1=(if b∈ks then ks else b::ks).length:=⟨_,rfl⟩;rw[←hk0];rw[←hk1] at hlen1;have HK:Hid (k0=ks.length∧k1=(if b∈ks then ks else b::ks).length):=⟨hk0,hk1⟩;have HEND:Hid (BS w1 M (c+1) (zC1 ks b)∧Kp [M] w w1):=⟨hM1,(hK0.mono (by simp)).tr hK1⟩;clear hM1 hK1 hK0 hL0 hlen hM0 hk hk0 hk1 hw0;go_wp2;go_ret;refine⟨?_,HEND.out⟩;have h:=HK.out;by_cases hm:b∈ks
 ·simp only[hm,if_true] at h;simp[hm,h.1,h.2]
 ·simp only[hm,if_false,List.length_cons] at h;simp only[hm,not_false_eq_true,decide_true];rw[h.1,h.2];simp
end Go.Proofs.YtdohpenfkdckiabGreatDoor
namespace Go.Proofs.YtdohpenfkdckiabGreatDoor
open Go.Proofs.Tryz
open Go.RowKit
open Go.ChangeMaps
theorem BS.mono{w:World}{M c c':Nat}{ks:List Nat}(h:BS w M c ks)(hc:c≤c'):BS w M c' ks:=by
 obtain⟨n,D,h1,h2,h3⟩:=h;exact⟨n,D,h1,by omega,h3⟩
theorem BS.card{w:World}{M c:Nat}{ks:List Nat}(h:BS w M c ks):ks.length≤c:=by
 obtain⟨n,D,h1,h2,h3,_⟩:=h;have:=h1.size_le;omega
theorem BS.at{w:World}{M c:Nat}{ks:List Nat}(h:BS w M c ks):∃ es cl,w.heap[M]?=some (.map es cl):=by
 obtain⟨n,D,⟨es,cl,hb,hf⟩,h2⟩:=h;exact⟨es,cl,hb⟩
theorem xR3(M:Nat)(h:HL)(q:Nat)(w:World)(hp:h.p=some q):
  Calls prog 144 #[.map (some M),qC5 h] w fun e w'=>e=.returned (.bool true)∧Kp [] w w':=by
 have hptr:h.ptr=some ⟨q,0,none⟩:=by simp[HL.ptr,hp]
 rw[qC5,hptr];go_enter func144,ntmps144;go_wp2;go_ret;exact⟨rfl,(Kp.refl _ _).alloc _⟩
theorem zQ7{E:SEnv}(hO:∀ (n b:Nat) (s:Int) (t:Tn n),E.O n b s t→b≤1000000)(n M c:Nat)(ks:List Nat)(h:HL)(m:Lnk (Tn n))(w:World)(hM:BS w M c ks)(hr:RL E.O n w h m)(hc:c≤1000000):
  Calls prog 144 #[.map (some M),qC5 h] w fun e w'=>∃ go ks1,e=.returned (.bool go)∧BS w' M (c+1) ks1∧Kp [M] w w'∧(∀ f:Tn n→List Nat→List Nat,qG2 f ks m=if go then f m.sub ks1 else ks1):=by
 cases hx:m.ref with
 | none=>
  obtain⟨hk,q,hp,hq⟩:=zK1 hr hx;refine (xR3 M h q w hp).mono ?_;rintro e w' ⟨rfl,hK⟩;exact⟨true,ks,rfl,(hM.kp hK (by simp)).mono (by omega),hK.mono (by simp),fun f=>by simp[qG2,hx]⟩
 | some x=>
  obtain⟨hp,he⟩:=zK4 hr (by rw[hx];rfl);have h2:=hr.2;rw[hx] at h2;refine (xR4 M c x.1 ks h w hM hp h2.1 (hO _ _ _ _ h2.2.2.2) hc (by have:=hM.card;omega)).mono ?_;rintro e w' ⟨rfl,h3,h4⟩;refine⟨_,_,rfl,h3,h4,fun f=>?_⟩;by_cases hm:x.1∈ks
  ·simp[qG2,hx,zC1,hm]
  ·simp[qG2,hx,zC1,hm]
theorem xQ4(E:SEnv)(t:Tn 0)(q M c:Nat)(ks:List Nat)(r:HL)(w:World)(hd:E.Dev w)(hq:RN E.O 0 w q t)(hM:BS w M c ks):
  Calls prog 145 #[.map (some M),φ E.V r,.pointer (some ⟨q,0,none⟩)] w fun e w'=>e=.returned (.tuple #[])∧Kp [] w w':=by
 obtain⟨vp,hq,hsp⟩:=hq;have hqs:=ζ hq;have c2:=ξ hq 2;simp only[υ,zG,zH,zI] at c2;clear hq hsp hM hd;rw[φ];go_enter func145,ntmps145;go_wp2_with fail;refine wp_loop_rounds 1 ?_;rw[rounds_succ];go_wp2
 go_end0
 exact⟨rfl,(Kp.refl _ _).alloc _⟩
def zA0(E:SEnv)(n:Nat):Prop:=∀ (t:Tn n) (q M c:Nat) (ks:List Nat) (r:HL) (w:World),E.Dev w→RN E.O n w q t→BS w M c ks→c+qB1 n t≤1000000→
 Calls prog 145 #[.map (some M),φ E.V r,.pointer (some ⟨q,0,none⟩)] w fun e w'=>e=.returned (.tuple #[])∧BS w' M (c+(qB1 n t-1)) (qF6 n t ks)∧E.Dev w'∧Kp (M::E.S) w w'
theorem xQ3(E:SEnv):zA0 E 0:=fun t q M c ks r w hd hq hM hc=>by
 refine (xQ4 E t q M c ks r w hd hq hM).mono ?_;rintro e w' ⟨rfl,hK⟩;exact⟨rfl,(hM.kp hK (by simp)).mono (by omega),(Env.To.of0 hd hK).dev,hK.mono (by simp)⟩
theorem qQ0(E:SEnv){w:World}{M cc:Nat}{ks:List Nat}(hd:E.Dev w)(hM:BS w M cc ks){k:Nat}{c:Array Value}{t:TypeId}{fr:Nat × Nat}(h:w.heap[k]?=some (.cells c t fr))(ht:t ∉ qN4):k ∉ M::E.S:=fun hm=>by
 rcases List.mem_cons.1 hm with rfl|hm
 ·obtain⟨es,cl,h2⟩:=hM.at;rw[h] at h2;cases h2
 ·exact E.nin hd h ht hm
theorem zA2(E:SEnv){w:World}{M cc:Nat}{ks:List Nat}(hd:E.Dev w)(hM:BS w M cc ks):Apt w (M::E.S) qF9:=fun k hk c t fr e hm=>qQ0 E hd hM e ((by decide:∀ t∈qF9,t ∉ qN4) t hm) hk
theorem xQ2(E:SEnv)(hO:∀ (n b:Nat) (s:Int) (t:Tn n),E.O n b s t→b≤1000000)(n:Nat)(IH:zA0 E n):zA0 E (n+1):=by
 intro t q M c ks r w hd hq hM hc;obtain⟨vl,hq,hs,hsl,hbo⟩:=hq;obtain⟨lb,lc,rfl⟩:=qJ8 hsl;obtain⟨ln,hln⟩:∃ ln,ln=hs.length:=⟨_,rfl⟩;obtain⟨lv,hlv⟩:∃ lv:Int,lv=((n+1:Nat):Int):=⟨_,rfl⟩;rw[←hln,←hlv] at hq;have HSL:=zh hsl;have HBO:=zh hbo;have HLN:Hid (ln=hs.length∧lv=((n+1:Nat):Int)):=⟨hln,hlv⟩;have HQ:=zh hq;have HD:=zh hd;have HM:=zh hM;have hqs:=ζ hq;have q2:=ξ hq 2;simp only[υ,zG,zH,zI] at q2;have hlen:=qG9 (fun l:Lnk (Tn n)=>qB1 n l.sub) (η t) (fun x _=>by cases n<;>simp[qB1]);have hmn:qB1 (n+1) t=1+meas (fun l:Lnk (Tn n)=>qB1 n l.sub) (η t):=rfl;have hlb:ln≤1000000:=by rw[hln,hbo.1];omega
 clear hsl hbo hln hlv hq hd hM hlen;rw[φ];go_enter func145,ntmps145;go_wp2_with fail;have hT0:=μ w (.cells #[.pointer (some ⟨E.V,0,none⟩),.string r.key,.int .i64 r.b,.int .u64 r.s,.pointer r.ptr] 83);have hK0:Kp [] w (w.alloc (.cells #[.pointer (some ⟨E.V,0,none⟩),.string r.key,.int .i64 r.b,.int .u64 r.s,.pointer r.ptr] 83)):=(Kp.refl _ _).alloc _
 go_loopw [13] (fun i wr=>∃ j:Nat,j≤ln∧i=.int .i64 j∧w.heap.size<wr.heap.size∧Hid (BS wr M (c+meas (fun l:Lnk (Tn n)=>qB1 n l.sub) ((η t).take j)) (((η t).take j).foldl (qG2 (qF6 n)) ks))∧Hid (E.Dev wr)∧Hid (Kp (M::E.S) w wr)∧Hid (wr.heap[w.heap.size]?=some (.cells #[.pointer (some ⟨E.V,0,none⟩),.string r.key,.int .i64 r.b,.int .u64 r.s,.pointer r.ptr] 83))) (fun i _=>ln-(intOf i).toNat)
 case atStart=>exact⟨0,Nat.zero_le _,rfl,by simp,by show BS _ _ _ _;simpa [qC9] using HM.out.kp hK0 (by simp),(Env.To.of0 HD.out hK0).dev,hK0.mono (by simp),hT0⟩
 case round=>
  obtain⟨j,hj,rfl,hsw,HMr,HDr,HKr,HTr⟩:=hrel;clear q2 hT0 hK0;have hap:=zA2 E HD.out HM.out;have hQr:=HKr.out.heap HQ.out (qQ0 E HD.out HM.out HQ.out (by decide));by_cases hlt:j<ln
  ·have hjl:j<hs.length:=by have:=HLN.out;omega
   have hjm:j<(η t).length:=by rw[←HBO.out.1];exact hjl
   obtain⟨gb,off,cp',cur,fq,hv,hcp,hrow,hcur⟩:=HSL.out.link (by omega);obtain⟨c0,c1,c2,c3⟩:=hcur j hjl;simp only[Value.slice.injEq,true_and] at hv;obtain⟨rfl,rfl⟩:=hv;have hR:=HKr.out.heap hrow (qQ0 E HD.out HM.out hrow (by decide));have a0:=ξ hR (off+j*4);have a1:=ξ hR (off+j*4+1);have a2:=ξ hR (off+j*4+2);have a3:=ξ hR (off+j*4+3);rw[c0] at a0;rw[c1] at a1;rw[c2] at a2;rw[c3] at a3;have hgs:=ζ hR;have hjb:(j:Int)<(ln:Int):=by omega
   have HRL:Hid (RL E.O n wr hs[j] (η t)[j]):=RL.keep (HBO.out.2 j hjl hjm) HKr.out hap;have hms:=qL9 (fun l:Lnk (Tn n)=>qB1 n l.sub) (η t) j hjm;have hma:=qX8 (fun l:Lnk (Tn n)=>qB1 n l.sub) (η t) j hjm;have hnp:1≤qB1 n (η t)[j].sub:=by cases n<;>simp[qB1]
   have hfs:((η t).take (j+1)).foldl (qG2 (qF6 n)) ks=qG2 (qF6 n) (((η t).take j).foldl (qG2 (qF6 n)) ks) (η t)[j]:=by rw[List.take_succ_eq_append_getElem hjm,List.foldl_append];rfl
   have HFS:=zh hfs;clear hcur hcp hrow c0 c1 c2 c3 hfs;go_wp2_with fail;obtain⟨w1,hw1,h71,hK1,hs1⟩:=qE8 wr (.cells #[.string hs[j].key,.int .i64 hs[j].b,.int .u64 hs[j].s,.pointer hs[j].ptr] 81);rw[←hw1];clear hw1 a0 a1 a2 a3 hR hgs hjb;have hM1:=HMr.out.kp hK1 (by simp);have hD1:=(Env.To.of0 HDr.out hK1).dev;refine (show Calls _ _ _ _ _ from zQ7 hO n M _ _ hs[j] (η t)[j] w1 hM1 (RL.keep HRL.out hK1 (Apt.nil _ _)) (by omega)).mono ?_;rintro e w2 ⟨go,ks1,rfl,hM2,hK2,hst⟩;have hoff:OffD w1 [M]:=fun k hk c t fr e=>by
    obtain⟨es,cl,h2⟩:=hM1.at;rw[List.mem_singleton.1 hk,h2] at e;cases e
   have hD2:=E.keepX _ _ _ hD1 hK2 hoff;have hKw2:Kp (M::E.S) w w2:=(HKr.out.tr hK1).tr hK2;have hQ2:=hKw2.heap HQ.out (qQ0 E HD.out HM.out HQ.out (by decide));have hq2s:=ζ hQ2;have q0:=ξ hQ2 0;simp only[υ,zG,zH,zI] at q0;have hnm:∀ k c t fr,w1.heap[k]?=some (.cells c t fr)→k ∉ [M]:=fun k c t fr e hm=>by
    obtain⟨es,cl,h2⟩:=hM1.at;rw[←List.mem_singleton.1 hm,e] at h2;cases h2
   have hT2:=hK2.heap (hK1.hp HTr.out) (hnm _ _ _ _ (hK1.hp HTr.out));have h72:=hK2.heap h71 (hnm _ _ _ _ h71);have hs2:=hK2.size;have HST:=zh hst;have HM2:=zh hM2;have HD2:=zh hD2;have HK2:=zh hKw2;have HT2:=zh hT2;have HRL2:Hid (RL E.O n w2 hs[j] (η t)[j]):=RL.keep (HBO.out.2 j hjl hjm) hKw2 hap;have H72:=zh h72;have HQ2:=zh hQ2;clear hst hM2 hD2 hKw2 hQ2 hT2 h72 hnm hoff hK1 hK2 hM1 hD1 h71 hap hQr
   cases go with
   | false=>
    go_wp2;exact⟨⟨j+1,by omega,by go_num,by omega,by show BS _ _ _ _;rw[HFS.out,HST.out,hms];exact HM2.out.mono (by omega),HD2,HK2,HT2⟩,by simp[intOf];omega⟩
   | true=>
    by_cases hn0:n=0
    ·have hl1:¬(1:Int)<lv:=by have:=HLN.out;omega
     go_wp2;refine⟨⟨j+1,by omega,by go_num,by omega,?_,HD2,HK2,HT2⟩,by simp[intOf];omega⟩;show BS _ _ _ _;rw[HFS.out,HST.out,hms];subst hn0;exact HM2.out.mono (by omega)
    ·have hl1:(1:Int)<lv:=by have:=HLN.out;omega
     go_wp2_with fail;have hS2:w2.drew.heap[w.heap.size]?=some (.cells #[.pointer (some ⟨E.V,0,none⟩),.string r.key,.int .i64 r.b,.int .u64 r.s,.pointer r.ptr] 83)∧w2.drew.heap[wr.heap.size]?=some (.cells #[.string hs[j].key,.int .i64 hs[j].b,.int .u64 hs[j].s,.pointer hs[j].ptr] 81)∧w2.drew.heap[q]?=some (υ lv (.slice none 0 0) (.slice (some ⟨gb,off,none⟩) ln lc)):=⟨HT2.out,H72.out,HQ2.out⟩;refine wp_region_held_drew (S:=fun W=>W.heap[w.heap.size]?=some (.cells #[.pointer (some ⟨E.V,0,none⟩),.string r.key,.int .i64 r.b,.int .u64 r.s,.pointer r.ptr] 83)∧W.heap[wr.heap.size]?=some (.cells #[.string hs[j].key,.int .i64 hs[j].b,.int .u64 hs[j].s,.pointer hs[j].ptr] 81)∧W.heap[q]?=some (υ lv (.slice none 0 0) (.slice (some ⟨gb,off,none⟩) ln lc))) (by kernel_rfl) hS2 (fun _=>?_);refine zU 0 (.map (some M)) hS2 ?_;refine zV 1 (.agg #[.pointer (some ⟨E.V,0,none⟩),.string r.key,.int .i64 r.b,.int .u64 r.s,.pointer r.ptr]) rfl (fun W hS=>by have a:=ξ hS.1;clear hS;go_simp) hS2 ?_;refine zV 2 (.agg #[.pointer (some ⟨E.V,0,none⟩),.string r.key,.int .i64 r.b,.int .u64 r.s,.pointer r.ptr]) rfl (fun W hS=>by have a:=ξ hS.1;clear hS;go_simp) hS2 ?_;refine zV 3 (.agg #[.string hs[j].key,.int .i64 hs[j].b,.int .u64 hs[j].s,.pointer hs[j].ptr]) rfl (fun W hS=>by have a:=ξ hS.2.1;clear hS;go_simp) hS2 ?_;refine zP 4 q 0 hS2 ?_;refine zV 5 (.pointer (some ⟨q,0,none⟩)) rfl (fun W hS=>by have c:=ζ hS.2.2;clear hS;go_simp) hS2 ?_;refine zP 6 q 0 hS2 ?_;refine zV 7 (.int .i64 lv) rfl (fun W hS=>by have a:=ξ hS.2.2 0;simp only[υ,zG,zH,zI] at a;clear hS;go_simp) hS2 ?_;refine zq 8 fun K hK=>?_;go_simp;have hKd:Kp [] w2 w2.drew:=(Kp.refl _ _).drew;have hTd:=Env.To.of0 HD2.out hKd;refine (show Calls _ _ _ _ _ from qJ7 E.toEnv n hs[j] r (η t)[j] lv w2.drew hTd.dev (RL.keep HRL2.out hKd (Apt.nil _ _)) (by have:=HLN.out;omega)).mono ?_;rintro e w3 ⟨q3,rfl,hq3,hT3⟩;have hM3:BS w3 M _ ks1:=(HM2.out.kp hKd (by simp)).kp hT3.kp (by obtain⟨es,cl,h2⟩:=HM2.out.at;exact E.ninM HD2.out h2);have hS3:=And.intro (E.stay hTd.dev hT3 hS2.1 (by decide)) (And.intro (E.stay hTd.dev hT3 hS2.2.1 (by decide)) (E.stay hTd.dev hT3 hS2.2.2 (by decide)));refine hK.out _ _ hS3 (fun _=>?_);clear hK K
     try simp only[zZ]
     refine zq 9 fun K hK=>?_;go_simp;refine (show Calls _ _ _ _ _ from IH (η t)[j].sub q3 M _ ks1 r w3 hT3.dev hq3 hM3 (by omega)).mono ?_;rintro e w4 ⟨rfl,hM4,hD4,hK4⟩;have hni:∀ {k:Nat} {c:Array Value} {tt:TypeId} {fr:Nat × Nat},w3.heap[k]?=some (.cells c tt fr)→tt ∉ qN4→k ∉ M::E.S:=fun h1 h2=>qQ0 E hT3.dev hM3 h1 h2;have hS4:=And.intro (hK4.heap hS3.1 (hni hS3.1 (by decide))) (And.intro (hK4.heap hS3.2.1 (hni hS3.2.1 (by decide))) (hK4.heap hS3.2.2 (hni hS3.2.2 (by decide))));refine hK.out _ _ hS4 (fun _=>?_);clear hK K;refine zd ?_
     try simp only[zZ]
     have HE4:Hid (BS w4 M (c+meas (fun l:Lnk (Tn n)=>qB1 n l.sub) ((η t).take j)+1+(qB1 n (η t)[j].sub-1)) (qF6 n (η t)[j].sub ks1)∧E.Dev w4∧Kp (M::E.S) w w4∧w.heap.size<w4.heap.size):=⟨hM4,hD4,((HK2.out.tr hKd).trans hT3.kp (fun i hi _=>List.mem_cons_of_mem _ hi)).trans hK4 (fun i hi _=>hi),ζ hS4.1⟩;have HT4:=zh hS4.1;clear hM4 hD4 hK4 hS4 hS3 hM3 hT3 hq3 hTd hKd hS2 hni;go_wp2;refine⟨⟨j+1,by omega,by go_num,HE4.out.2.2.2,?_,HE4.out.2.1,HE4.out.2.2.1,HT4⟩,by simp[intOf];omega⟩;show BS _ _ _ _;rw[HFS.out,HST.out,hms];exact HE4.out.1.mono (by omega)
  ·have hjb:¬(j:Int)<(ln:Int):=by omega
   have hje:(η t).take j=η t:=List.take_of_length_le (by rw[←HBO.out.1];have:=HLN.out;omega);have hMe:=HMr.out;rw[hje] at hMe;have HME:Hid (BS wr M (c+(qB1 (n+1) t-1)) (qF6 (n+1) t ks)):=hMe.mono (by rw[hmn];omega);clear hMe hje hap hQr;go_wp2
   go_end0
   exact⟨rfl,by first | exact HME.out | (have h:=HME.out;rw[hmn,Nat.add_sub_cancel_left] at h;exact h),HDr.out,HKr.out⟩
theorem zQ2(E:SEnv)(hO:∀ (n b:Nat) (s:Int) (t:Tn n),E.O n b s t→b≤1000000):∀ n,zA0 E n
 | 0=>xQ3 E
 | n+1=>xQ2 E hO n (zQ2 E hO n)
def qC4(N:Nat)(ks:List Nat):List Nat:=(List.range' 2 (N-2)).filter (fun k=>decide (k ∉ ks))
theorem xZ2(ks:List Nat)(i:Nat):qC4 (2+(i+1)) ks=qC4 (2+i) ks++(if 2+i∈ks then [] else [2+i]):=by
 unfold qC4;rw[show 2+(i+1)-2=i+1 from by omega,show 2+i-2=i from by omega,List.range'_concat,List.filter_append]
 congr 1
 by_cases h:2+i∈ks<;>simp[h]
theorem xZ3(ks:List Nat)(k:Nat)(h:2≤k):qC4 (k+1) ks=qC4 k ks++(if k∈ks then [] else [k]):=by
 have e:=xZ2 ks (k-2);rw[show 2+(k-2+1)=k+1 from by omega,show 2+(k-2)=k from by omega] at e;exact e
theorem zB8(N:Nat)(ks:List Nat):(qC4 N ks).length≤N:=by
 unfold qC4;refine Nat.le_trans (List.length_filter_le _ _) ?_;simp
theorem jB7(a:List Nat)(b:Nat):qG8 (a++[b])=qG8 a++[.int .i64 (b:Int)]:=by simp[qG8]
theorem jB1:(prog.info? 3).map (fun i=>(i.zero,i.size,i.bytes))=some (some (.int .i64 0),1,8):=by kernel_rfl
theorem jM2(M c V A N:Nat)(ks:List Nat)(w:World)(hM:BS w M c ks)(hV:w.heap[V]?=some (qB8 A N))(hN2:2≤N)(hN:N≤1000):
  Calls prog 103 #[.map (some M),.pointer (some ⟨V,0,none⟩)] w fun e w'=>∃ v,e=.returned v∧Slc w' 3 1 v (qC4 N ks).length (qG8 (qC4 N ks))∧Kp [] w w':=by
 obtain⟨i0,hi,hz0,hz1,hz2⟩:=info_parts jB1;have HM:=zh hM;have HV:=zh hV;clear hM hV;go_enter func103,ntmps103;go_wp2_with fail
 go_loopw [5,6] (fun s i wr=>∃ (k:Nat),2≤k∧k≤N∧i=.int .i64 (k:Int)∧Hid (wr.ownsRow w.heap.size 3 1 s (qC4 k ks).length (qG8 (qC4 k ks)))∧Hid (Kp [] w wr)) (fun _ i _=>N-(intOf i).toNat)
 case atStart=>exact⟨2,Nat.le_refl _,hN2,rfl,World.ownsRow_nil _ _ _ _,Kp.refl _ _⟩
 case round=>
  obtain⟨k,hk2,hkN,rfl,HO,HK⟩:=hrel;go_wp2_with fail;refine (qZ6 V A N wr (HK.out.hp HV.out)).mono ?_;rintro e w' ⟨rfl,hw'⟩;rw[hw'];clear hw' w';by_cases hlt:k<N
  ·have hlk:=(HM.out.kp HK.out (by simp)).look (k:=k) (by omega);have hjb:(k:Int)<(N:Int):=by omega
   have HFS:Hid (qC4 (k+1) ks=qC4 k ks++(if k∈ks then [] else [k])):=xZ3 ks k hk2;have hfl:=zB8 k ks;by_cases hm:k∈ks
   ·have hd:decide (k∈ks)=true:=by simp[hm]
    rw[hd] at hlk;have h:=HO.out;rw[show qC4 k ks=qC4 (k+1) ks from by rw[HFS.out,if_pos hm,List.append_nil]] at h;have HO':=Hid.mk' h;clear h;clear hd hm;go_wp2;refine⟨⟨k+1,by omega,by omega,by go_num,HO'.out.alloc _,HK.out.alloc _⟩,by simp[intOf];omega⟩
   ·have hd:decide (k∈ks)=false:=by simp[hm]
    rw[hd] at hlk;have HFE:Hid (qC4 (k+1) ks=qC4 k ks++[k]):=by show _=_;rw[HFS.out,if_neg hm]
    clear hd hm
    go_wp2_with (at_builtin;refine wpList_append_own _ rfl _ _ 22 rfl w.heap.size 3 i0 (.int .i64 0) 1 8 underlying22 hi hz0 hz1 hz2 rfl (by decide) _ _ _ rfl ((HO.out.alloc _).alloc _) ⟨wr.heap.size+1,0,none⟩ 1 1 [.int .i64 (k:Int)] rfl rfl ?_ (by simp[Value.oneCell']) (by unfold maxLen;omega) (by omega) (by have:=HK.out.size;simp;omega) ?_)
    ·intro j u hu
     cases j with
     | zero=>
      simp only[zH,Option.some.injEq] at hu;subst hu;simp[Addr.add]
     | succ j=>simp at hu
    ·intro v1 w1 hown1 hgr1 _;have HO1:Hid (w1.ownsRow w.heap.size 3 1 v1 (qC4 (k+1) ks).length (qG8 (qC4 (k+1) ks))):=by
      show World.ownsRow _ _ _ _ _ _ _;rw[HFE.out,jB7,List.length_append];exact hown1
     have HK1:Hid (Kp [] w w1):=((HK.out.alloc _).alloc _).grown hgr1 (fun q hq=>Or.inr (qI3 HO.out q hq));clear hown1 hgr1;go_wp2;exact⟨⟨k+1,by omega,by omega,by go_num,HO1,HK1⟩,by simp[intOf];omega⟩
  ·have hjb:¬(k:Int)<(N:Int):=by omega
   have hke:k=N:=by omega
   have h:=HO.out;rw[hke] at h;have HOE:=Hid.mk' h;clear h;clear hke;go_wp2;go_ret;exact⟨_,rfl,qG3 HOE.out,HK.out⟩
def tcs(V:Nat)(h:HL):List Value:=[.pointer (some ⟨V,0,none⟩),.string h.key,.int .i64 h.b,.int .u64 h.s,.pointer h.ptr]
def qK0(V:Nat)(hs:List HL):List Value:=hs.flatMap (tcs V)
theorem jQ4(V:Nat)(hs:List HL)(i k:Nat)(hi:i<hs.length)(hk:k<5):(qK0 V hs)[i*5+k]?=(tcs V hs[i])[k]?:=by
 have h:=zT9 (tcs V) 5 hs (fun x _=>rfl) i hi;have h2:=congrArg (fun z=>z[k]?) h;simp only[List.getElem?_take,if_pos hk,List.getElem?_drop] at h2;exact h2
theorem Slc.tree{V:Nat}{w:World}{v:Value}{hs:List HL}(h:Slc w 83 5 v hs.length (qK0 V hs))(hn:1≤hs.length):
  ∃ g off cap cur fr,v=.slice (some ⟨g,off,none⟩) hs.length cap∧hs.length≤cap∧w.heap[g]?=some (.cells cur 83 fr)∧∀ i (h:i<hs.length),cur[off+i*5]?=some (.pointer (some ⟨V,0,none⟩))∧cur[off+i*5+1]?=some (.string hs[i].key)∧cur[off+i*5+2]?=some (.int .i64 hs[i].b)∧cur[off+i*5+3]?=some (.int .u64 hs[i].s)∧cur[off+i*5+4]?=some (.pointer hs[i].ptr):=by
 rcases h.val with⟨h0,_⟩|⟨g,off,cap,cur,fr,h1,h2,h3,h4,h5⟩
 ·omega
 ·have at_:∀ i (hi:i<hs.length) k (hk:k<5) u,(tcs V hs[i])[k]?=some u→cur[off+i*5+k]?=some u:=fun i hi k hk u hu=>by
   rw[Nat.add_assoc];exact h5 _ _ ((jQ4 V hs i k hi hk).trans hu)
  exact⟨g,off,cap,cur,fr,h1,h3,h4,fun i hi=>⟨at_ i hi 0 (by omega) _ rfl,at_ i hi 1 (by omega) _ rfl,at_ i hi 2 (by omega) _ rfl,at_ i hi 3 (by omega) _ rfl,at_ i hi 4 (by omega) _ rfl⟩⟩
theorem zP7(E:SEnv)(hO:∀ (n b:Nat) (s:Int) (t:Tn n),E.O n b s t→b≤1000000)(M c:Nat)(ks:List Nat)(v:Value)(hs:List HL)(rs:List Root)(w:World)(hd:E.Dev w)(hv:Slc w 83 5 v hs.length (qK0 E.V hs))(hl:hs.length=rs.length)(hr:∀ i (h1:i<hs.length) (h2:i<rs.length),RR E.toEnv w hs[i] rs[i]∧(∀ n l,rs[i]=.at n l→l.key=⟨#[]⟩))(hM:BS w M c ks)(hc:c+meas qB9 rs<1000000)(hn:hs.length≤1000):
  Calls prog 102 #[.map (some M),v] w fun e w'=>e=.returned (.tuple #[])∧BS w' M (c+meas qB9 rs) (rs.foldl qA8 ks)∧E.Dev w'∧Kp (M::E.S) w w':=by
 obtain⟨bs,cp,rfl⟩:=qJ8 hv;obtain⟨ln,hln⟩:∃ ln,ln=hs.length:=⟨_,rfl⟩;have HV:=zh hv;rw[←hln];have HLN:Hid (ln=hs.length∧hs.length=rs.length):=⟨hln,hl⟩;have HR:=zh hr;have HD:=zh hd;have HM:=zh hM;have hlb:ln≤1000:=by omega
 clear hv hln hl hr hd hM hn;go_enter func102,ntmps102;go_wp2_with fail
 go_loopw [8] (fun i wr=>∃ j:Nat,j≤ln∧i=.int .i64 j∧Hid (BS wr M (c+meas qB9 (rs.take j)) ((rs.take j).foldl qA8 ks))∧Hid (E.Dev wr)∧Hid (Kp (M::E.S) w wr)) (fun i _=>ln-(intOf i).toNat)
 case atStart=>exact⟨0,Nat.zero_le _,rfl,by show BS _ _ _ _;simpa [qC9] using HM.out,HD,Kp.refl _ _⟩
 case round=>
  obtain⟨j,hj,rfl,HMr,HDr,HKr⟩:=hrel;by_cases hlt:j<ln
  ·have hjl:j<hs.length:=by have:=HLN.out;omega
   have hjm:j<rs.length:=by have:=HLN.out;omega
   obtain⟨gb,off,cp',cur,fq,hv,hcp,hrow,hcur⟩:=HV.out.tree (by omega);obtain⟨c0,c1,c2,c3,c4⟩:=hcur j hjl;simp only[Value.slice.injEq,true_and] at hv;obtain⟨rfl,rfl⟩:=hv;have hR:=HKr.out.heap hrow (qQ0 E HD.out HM.out hrow (by decide));have a0:=ξ hR (off+j*5);have a1:=ξ hR (off+j*5+1);have a2:=ξ hR (off+j*5+2);have a3:=ξ hR (off+j*5+3);have a4:=ξ hR (off+j*5+4);rw[c0] at a0;rw[c1] at a1;rw[c2] at a2;rw[c3] at a3;rw[c4] at a4;have hgs:=ζ hR;have hjb:(j:Int)<(ln:Int):=by omega
   have hms:=qL9 qB9 rs j hjm;have hma:=qX8 qB9 rs j hjm;have HFS:Hid ((rs.take (j+1)).foldl qA8 ks=qA8 ((rs.take j).foldl qA8 ks) rs[j]):=by show _=_;rw[List.take_succ_eq_append_getElem hjm,List.foldl_append];rfl
   clear hcur hcp hrow c0 c1 c2 c3 c4;go_wp2_with fail;obtain⟨w1,hw1,h51,hK1,hs1⟩:=qE8 wr (.cells #[.pointer (some ⟨E.V,0,none⟩),.string hs[j].key,.int .i64 hs[j].b,.int .u64 hs[j].s,.pointer hs[j].ptr] 83);rw[←hw1];clear hw1 a0 a1 a2 a3 a4 hR hgs hjb;have hM1:=HMr.out.kp hK1 (by simp);have hD1:=(Env.To.of0 HDr.out hK1).dev;have hKw1:Kp (M::E.S) w w1:=HKr.out.tr hK1;have hap:=zA2 E HD.out HM.out;obtain⟨hRR,hkey⟩:=HR.out j hjl hjm
   cases hrj:rs[j] with
   | none=>
    rw[hrj] at hRR;have hz:hs[j]=⟨⟨#[]⟩,0,0,none⟩:=hRR;refine (show Calls _ _ _ _ _ from (by have h:=zB0 E.V w1;rw[←hz] at h;exact h:Calls prog 85 #[φ E.V hs[j]] w1 fun e w'=>e=.returned (.bool true)∧Kp [] w1 w')).mono ?_;rintro e w2 ⟨rfl,hK2⟩;have HE2:Hid (BS w2 M (c+meas qB9 (rs.take j)) ((rs.take j).foldl qA8 ks)∧E.Dev w2∧Kp (M::E.S) w w2):=⟨hM1.kp hK2 (by simp),(Env.To.of0 hD1 hK2).dev,hKw1.tr hK2⟩;have h52:=hK2.hp h51;have h52s:=ζ h52;clear hM1 hD1 hKw1 hK2 hK1 h51 h52 hRR hkey hz hap;go_wp2;refine⟨⟨j+1,by omega,by go_num,?_,HE2.out.2.1,HE2.out.2.2⟩,by simp[intOf];omega⟩;show BS _ _ _ _;rw[HFS.out,hrj,hms,hrj];exact HE2.out.1.mono (by simp[qB9])
   | «at» n l=>
    rw[hrj] at hRR;have hrl1:RL E.O n w1 hs[j] l:=RL.keep hRR hKw1 hap;refine (show Calls _ _ _ _ _ from qZ3 E.toEnv n hs[j] l w1 hrl1 (hkey n l hrj)).mono ?_;rintro e w2 ⟨rfl,hK2⟩;have hM2:=hM1.kp hK2 (by simp);have hD2:=(Env.To.of0 hD1 hK2).dev;have hKw2:Kp (M::E.S) w w2:=hKw1.tr hK2;have h52:=hK2.hp h51;have h52s:=ζ h52;have hrl2:RL E.O n w2 hs[j] l:=RL.keep hRR hKw2 hap;have d1:=ξ h52;rw[hrj] at hma hms;clear hM1 hD1 hKw1 hK2 hK1 h51 hkey hrl1;have hnp:1≤qB9 (.at n l):=by simp only[qB9];cases n<;>simp[qB1]
    go_wp2_with fail;refine (show Calls _ _ _ _ _ from zQ7 hO n M _ _ hs[j] l w2 hM2 hrl2 (by omega)).mono ?_;rintro e w3 ⟨go,ks1,rfl,hM3,hK3,hst⟩;have hnm:∀ {S:List Nat} {W:World} {cc:Nat} {kk:List Nat} {k:Nat} {c:Array Value} {t:TypeId} {fr:Nat × Nat},BS W M cc kk→W.heap[k]?=some (.cells c t fr)→k ∉ [M]:=fun hB e hm=>by
     obtain⟨es,cl,h2⟩:=hB.at;rw[←List.mem_singleton.1 hm,e] at h2;cases h2
    have hoff:OffD w2 [M]:=fun k hk c t fr e=>absurd hk (hnm (S:=[]) hM2 e);have hD3:=E.keepX _ _ _ hD2 hK3 hoff;have hKw3:Kp (M::E.S) w w3:=hKw2.tr hK3;have h53:=hK3.heap h52 (hnm (S:=[]) hM2 h52);have HST:=zh hst;have HM3:=zh hM3;have HD3:=zh hD3;have HK3:=zh hKw3;have HRL3:Hid (RL E.O n w3 hs[j] l):=RL.keep hRR hKw3 hap;have H53:=zh h53;clear hst hM3 hD3 hKw3 h53 hnm hoff hK3 hM2 hD2 hKw2 h52 hrl2 hap hRR d1
    cases go with
    | false=>
     go_wp2;refine⟨⟨j+1,by omega,by go_num,?_,HD3,HK3⟩,by simp[intOf];omega⟩;show BS _ _ _ _;rw[HFS.out,hrj,hms,qA8,HST.out];exact HM3.out.mono (by omega)
    | true=>
     go_wp2_with fail;have hS3:w3.drew.heap[wr.heap.size]?=some (.cells #[.pointer (some ⟨E.V,0,none⟩),.string hs[j].key,.int .i64 hs[j].b,.int .u64 hs[j].s,.pointer hs[j].ptr] 83):=H53.out;refine wp_region_held_drew (S:=fun W=>W.heap[wr.heap.size]?=some (.cells #[.pointer (some ⟨E.V,0,none⟩),.string hs[j].key,.int .i64 hs[j].b,.int .u64 hs[j].s,.pointer hs[j].ptr] 83)) (by kernel_rfl) hS3 (fun _=>?_);refine zU 0 (.map (some M)) hS3 ?_;refine zV 1 (.agg #[.pointer (some ⟨E.V,0,none⟩),.string hs[j].key,.int .i64 hs[j].b,.int .u64 hs[j].s,.pointer hs[j].ptr]) rfl (fun W hS=>by have a:=ξ hS;clear hS;go_simp) hS3 ?_;refine zV 2 (.agg #[.pointer (some ⟨E.V,0,none⟩),.string hs[j].key,.int .i64 hs[j].b,.int .u64 hs[j].s,.pointer hs[j].ptr]) rfl (fun W hS=>by have a:=ξ hS;clear hS;go_simp) hS3 ?_;refine zq 3 fun K hK=>?_;go_simp;have hKd:Kp [] w3 w3.drew:=(Kp.refl _ _).drew;have hTd:=Env.To.of0 HD3.out hKd;refine (show Calls _ _ _ _ _ from qY6 E.toEnv n hs[j] l w3.drew hTd.dev (RL.keep HRL3.out hKd (Apt.nil _ _))).mono ?_;rintro e w4 ⟨q4,rfl,hq4,hT4⟩;have hM4:BS w4 M _ ks1:=(HM3.out.kp hKd (by simp)).kp hT4.kp (by obtain⟨es,cl,h2⟩:=HM3.out.at;exact E.ninM HD3.out h2);have hS4:=E.stay hTd.dev hT4 hS3 (by decide);refine hK.out _ _ hS4 (fun _=>?_);clear hK K
     try simp only[zZ]
     refine zq 4 fun K hK=>?_;go_simp;have hrn:qB9 (.at n l)=qB1 n l.sub:=rfl;refine (show Calls _ _ _ _ _ from zQ2 E hO n l.sub q4 M _ ks1 hs[j] w4 hT4.dev hq4 hM4 (by omega)).mono ?_;rintro e w5 ⟨rfl,hM5,hD5,hK5⟩;refine hK.out _ _ (hK5.heap hS4 (qQ0 E hT4.dev hM4 hS4 (by decide))) (fun _=>?_);clear hK K;refine zd ?_
     try simp only[zZ]
     have HE5:Hid (BS w5 M (c+meas qB9 (rs.take j)+1+(qB1 n l.sub-1)) (qF6 n l.sub ks1)∧E.Dev w5∧Kp (M::E.S) w w5):=⟨hM5,hD5,((HK3.out.tr hKd).trans hT4.kp (fun i hi _=>List.mem_cons_of_mem _ hi)).trans hK5 (fun i hi _=>hi)⟩;clear hM5 hD5 hK5 hS4 hM4 hT4 hq4 hTd hKd hS3;go_wp2;refine⟨⟨j+1,by omega,by go_num,?_,HE5.out.2.1,HE5.out.2.2⟩,by simp[intOf];omega⟩;show BS _ _ _ _;rw[HFS.out,hrj,hms,qA8,HST.out];exact HE5.out.1.mono (by omega)
  ·have hjb:¬(j:Int)<(ln:Int):=by omega
   have hje:rs.take j=rs:=List.take_of_length_le (by have:=HLN.out;omega);have hMe:=HMr.out;rw[hje] at hMe;have HME:=zh hMe;clear hMe hje;go_wp2
   go_end0
   exact⟨rfl,HME.out,HDr.out,HKr.out⟩
theorem RR.kp{E:Env}{w w':World}{h:HL}{r:Root}{S:List Nat}(hr:RR E w h r)(hK:Kp S w w')(hS:Apt w S qF9):RR E w' h r:=by
 cases r with
 | none=>exact hr
 | «at» n l=>exact RL.keep hr hK hS
theorem xF2(E:SEnv)(hO:∀ (n b:Nat) (s:Int) (t:Tn n),E.O n b s t→b≤1000000)(A N:Nat)(h:HL)(rt:Root)(v:Value)(hs:List HL)(rs:List Root)(w:World)(hd:E.Dev w)(hv:Slc w 83 5 v hs.length (qK0 E.V hs))(hl:hs.length=rs.length)(hr:∀ i (h1:i<hs.length) (h2:i<rs.length),RR E.toEnv w hs[i] rs[i]∧(∀ n l,rs[i]=.at n l→l.key=⟨#[]⟩))(hrt:RR E.toEnv w h rt)(hkt:∀ n l,rt=.at n l→l.key=⟨#[]⟩)(hc:qB9 rt+meas qB9 rs<1000000)(hn:hs.length≤1000)
  (hV:∀ W,E.Dev W→W.heap[E.V]?=some (qB8 A N)) (hN2:2≤N) (hN:N≤1000)
  (hnew:∀ W,E.Dev W→RR E.toEnv W h rt→Calls prog 58 #[φ E.V h] W fun e w'=>e=.returned (.int .i64 (rt.news:Int))∧Kp [] W w') (hnb:rt.news≤1000000) (hfit:rt.news≤(qC4 N (rs.foldl qA8 (qA8 [] rt))).length):
  Calls prog 66 #[φ E.V h,v] w fun e w'=>∃ vf,e=.returned (.tuple #[vf,.int .i64 (((qA8 [] rt).length+rt.news:Nat):Int)])∧Slc w' 3 1 vf (qC4 N (rs.foldl qA8 (qA8 [] rt))).length (qG8 (qC4 N (rs.foldl qA8 (qA8 [] rt))))∧E.Dev w'∧Kp E.S w w':=by
 obtain⟨bs,cp,rfl⟩:=qJ8 hv;obtain⟨ln,hln⟩:∃ ln,ln=hs.length:=⟨_,rfl⟩;have HV:=zh hv;rw[←hln];have HLN:=zh hln;have HR:=zh hr;have HD:=zh hd;have HT:Hid (RR E.toEnv w h rt∧∀ n l,rt=.at n l→l.key=⟨#[]⟩):=⟨hrt,hkt⟩;have HNEW:=zh hnew;have HFIT:=zh hfit;clear hv hln hr hd hrt hkt hnew hfit;rw[φ];go_enter func66,ntmps66;have hmm:=@run_makeMap prog;go_wp2_with fail;obtain⟨W,hW,hT0,hM0,hB0,hK0,hs0⟩:=qW4 w (.cells #[.pointer (some ⟨E.V,0,none⟩),.string h.key,.int .i64 h.b,.int .u64 h.s,.pointer h.ptr] 83) (.map #[] 0) (.cells #[.pointer (some ⟨E.V,0,none⟩),.string h.key,.int .i64 h.b,.int .u64 h.s,.pointer h.ptr] 83);have hbs:BS W (w.heap.size+1) 0 []:=by
  have h1:=(BS.made (w.alloc (.cells #[.pointer (some ⟨E.V,0,none⟩),.string h.key,.int .i64 h.b,.int .u64 h.s,.pointer h.ptr] 83))).kp ((Kp.refl [] _).alloc (.cells #[.pointer (some ⟨E.V,0,none⟩),.string h.key,.int .i64 h.b,.int .u64 h.s,.pointer h.ptr] 83)) (by simp);rw[←hW] at h1;simpa using h1
 rw[←hW];clear hW hmm;have hDW:=(Env.To.of0 HD.out hK0).dev;have hrW:=RR.kp HT.out.1 hK0 (Apt.nil _ _);refine (zP7 E hO (w.heap.size+1) 0 [] (.slice (some ⟨w.heap.size+1+1,0,none⟩) 1 1) [h] [rt] W hDW ⟨rfl,Or.inr ⟨w.heap.size+1+1,0,1,_,_,rfl,Nat.le_refl _,Nat.le_refl _,hB0,fun j u hu=>by simpa [qK0,tcs] using hu⟩⟩ rfl (fun i h1 h2=>by have e:i=0:=(by simpa using h1);subst e;exact⟨hrW,HT.out.2⟩) hbs (by simp[qE0,qC9];omega) (by simp)).mono ?_;rintro e w1 ⟨rfl,hM1,hD1,hK1⟩;simp only[List.foldl_cons,List.foldl_nil,qE0,qC9,Nat.zero_add,Nat.add_zero] at hM1;have hapW:=zA2 E hDW hbs;have hT1:=hK1.heap hT0 (qQ0 E hDW hbs hT0 (by decide));have hr1:=RR.kp hrW hK1 hapW;have hlen:=hM1.len 3;have hcard:=hM1.card;have t:=ξ hT1;have hT1s:=ζ hT1;obtain⟨k1,hk1⟩:∃ k1,k1=(qA8 [] rt).length:=⟨_,rfl⟩;rw[←hk1] at hlen hcard;obtain⟨nw,hnw⟩:∃ nw,nw=rt.news:=⟨_,rfl⟩;have HKN:Hid (k1=(qA8 [] rt).length∧nw=rt.news):=⟨hk1,hnw⟩;have HM1:=zh hM1;have HD1:=zh hD1;have HW1:Hid (Kp E.S w w1):=(hK0.mono (by simp)).trans hK1 (fun i hi hlt=>by rcases List.mem_cons.1 hi with rfl | hi;omega;exact hi);have HT1:=zh hT1;have HR1:=zh hr1;clear hM1 hD1 hK1 hT1 hr1 hk1 hapW hrW hDW hbs hK0 hT0 hM0 hB0;rw[←hnw] at hnb;clear hnw;go_wp2_with fail;refine (show Calls _ _ _ _ _ from HNEW.out w1 HD1.out HR1.out).mono ?_;rintro e w2 ⟨rfl,hK2⟩;rw[←HKN.out.2];have hM2:=HM1.out.kp hK2 (by simp);have hD2:=(Env.To.of0 HD1.out hK2).dev;have hT2:=hK2.hp HT1.out;have hKw2:Kp E.S w w2:=HW1.out.tr hK2;have haT:Apt w E.S [83]:=fun k hk c t fr e hm=>E.nin HD.out e (by rw[List.mem_singleton.1 hm];decide) hk;have hsl2:=HV.out.keep hKw2 haT;have HRS:Hid (∀ i (h1:i<hs.length) (h2:i<rs.length),RR E.toEnv w2 hs[i] rs[i]∧(∀ n l,rs[i]=.at n l→l.key=⟨#[]⟩)):=fun i h1 h2=>⟨RR.kp (HR.out i h1 h2).1 hKw2 (E.apt w HD.out),(HR.out i h1 h2).2⟩;have HM2:=zh hM2;have HD2:=zh hD2;have HW2:=zh hKw2;have HT2:=zh hT2;have HS2:=zh hsl2;clear hM2 hD2 hT2 hKw2 hsl2 hK2 haT t hlen;go_wp2_with fail;refine (show Calls _ _ _ _ _ from (by rw[HLN.out];exact zP7 E hO (w.heap.size+1) (qB9 rt) (qA8 [] rt) (.slice bs hs.length cp) hs rs w2 HD2.out HS2.out hl HRS.out HM2.out hc hn:Calls prog 102 #[.map (some (w.heap.size+1)),.slice bs ln cp] w2 _)).mono ?_;rintro e w3 ⟨rfl,hM3,hD3,hK3⟩;have hT3:=hK3.heap HT2.out (qQ0 E HD2.out HM2.out HT2.out (by decide));have hr3:=RR.kp (RR.kp HT.out.1 HW2.out (E.apt w HD.out)) hK3 (zA2 E HD2.out HM2.out);have hKw3:Kp E.S w w3:=HW2.out.trans hK3 (fun i hi hlt=>by rcases List.mem_cons.1 hi with rfl | hi;omega;exact hi);have t:=ξ hT3;have hT3s:=ζ hT3;go_wp2_with fail;refine (jM2 (w.heap.size+1) _ E.V A N _ w3 hM3 (hV w3 hD3) hN2 hN).mono ?_;rintro e w4 ⟨vf,rfl,hsf,hK4⟩;obtain⟨fs,hfs⟩:∃ fs,fs=qC4 N (rs.foldl qA8 (qA8 [] rt)):=⟨_,rfl⟩;rw[←hfs] at hsf;obtain⟨fb,fc,rfl⟩:=qJ8 hsf;have hfit:=HFIT.out;rw[←hfs,←HKN.out.2] at hfit;obtain⟨fl,hfl⟩:∃ fl,fl=fs.length:=⟨_,rfl⟩;rw[←hfl] at hfit;have hT4:=hK4.hp hT3;have t4:=ξ hT4;have hT4s:=ζ hT4;have hD4:=(Env.To.of0 hD3 hK4).dev;have hr4:=RR.kp hr3 hK4 (Apt.nil _ _);have HF4:Hid (Slc w4 3 1 (.slice fb fl fc) fs.length (qG8 fs)∧fl=fs.length∧fs=qC4 N (rs.foldl qA8 (qA8 [] rt))):=⟨by rw[hfl];exact hsf,hfl,hfs⟩;rw[←hfl];have HD4:=zh hD4;have HK4:Hid (Kp E.S w w4):=hKw3.tr hK4;have HR4:=zh hr4;clear t hT3 hM3 hD3 hK3 hr3 hKw3 hsf hK4 hT4 hD4 hr4 hfs hfl hT3s;go_wp2_with fail;refine (show Calls _ _ _ _ _ from HNEW.out w4 HD4.out HR4.out).mono ?_;rintro e w5 ⟨rfl,hK5⟩;rw[←HKN.out.2];have hgt:¬(fl:Int)<(nw:Int):=by omega
 have HE:Hid (Slc w5 3 1 (.slice fb fl fc) fs.length (qG8 fs)∧E.Dev w5∧Kp E.S w w5):=⟨HF4.out.1.keep0 hK5,(Env.To.of0 HD4.out hK5).dev,HK4.out.tr hK5⟩;clear hK5 t4;go_wp2
 go_ret2
 refine⟨.slice fb fl fc,?_,?_,HE.out.2⟩
 ·rw[←HKN.out.1,←HKN.out.2,Int.natCast_add];rfl
 ·rw[←HF4.out.2.2];exact HE.out.1
end Go.Proofs.YtdohpenfkdckiabGreatDoor
namespace Go.Proofs.YtdohpenfkdckiabGreatDoor
open Go.Proofs.Tryz
open Go.RowKit
variable {κ:Nat}
def qC0(N rb rs:Int):List UInt8:=toB (qE5 N rb rs)++List.replicate 96 0
theorem qL3(N rb rs:Int):(qC0 N rb rs).length=128:=by simp[qC0,qI5,qV3]
theorem jB0(V A n C:Nat)(calls writes:Int)(i:Nat)(N rb rs:Int)(l:List UInt8)(w:World)(hV:w.heap[V]?=some (qB8 A n))(h:w.heap[A]?=some (χ κ n C (.slice none 0 0) calls writes))
  (hi:i<n) (hn:n≤1000) (hC:w.heap[C]?=some (.cells (enc l) 87)) (hs:n*128≤l.length) (hAC:C≠A) (hVA:V≠A) (hVC:V≠C) (hN:N % 2=i) (hN0:0≤N) (hb0:0≤rb) (hb1:rb≤1000) (hs0:0≤rs):
  Calls prog 100 #[.pointer (some ⟨V,0,none⟩),.agg #[.int .u64 N,.int .i64 rb,.int .u64 rs]] w fun e w'=>e=.returned (.tuple #[])∧
   w'.heap[A]?=some (χ κ n C (.slice none 0 0) (nx (nx calls)) (nx writes))∧w'.heap[C]?=some (.cells (enc (qC8 l i (qC0 N rb rs))) 87)∧Kp [A,C] w w':=by
 have hVs:=ζ hV;have hA:=ζ h;have hCs:=ζ hC;have HN:=zh hN;clear hN;go_enter func100,ntmps100;go_wp2_with fail;rw[xJ3];obtain⟨W1,hW1,hK1,hA1,hC1,hV1,hH1,hG1,hsz⟩:∃ W1,W1=(w.alloc (.cells #[.int .u64 N,.int .i64 rb,.int .u64 rs] 116)).alloc (.cells (enc qH5) 223)∧Kp [A,C] w W1∧W1.heap[A]?=some (χ κ n C (.slice none 0 0) calls writes)∧W1.heap[C]?=some (.cells (enc l) 87)∧W1.heap[V]?=some (qB8 A n)∧
   W1.heap[w.heap.size]?=some (.cells #[.int .u64 N,.int .i64 rb,.int .u64 rs] 116)∧W1.heap[w.heap.size+1]?=some (.cells (enc qH5) 223)∧W1.heap.size=w.heap.size+2:=
  ⟨_,rfl,((Kp.refl _ _).alloc _).alloc _,θ _ (θ _ h),θ _ (θ _ hC),θ _ (θ _ hV),θ _ (μ _ _),by simpa using μ (w.alloc (.cells #[.int .u64 N,.int .i64 rb,.int .u64 rs] 116)) (.cells (enc qH5) 223),by simp⟩
 rw[←hW1];clear hW1;refine wp_region_any (by kernel_rfl) ?_;change wpAny _ _ _ _ _ _ _ (World.drew _);refine zu 0 (.slice (some ⟨w.heap.size+1,0,none⟩) 128 128) ?_;refine zQ 1 fun K hK=>?_;refine qJ9 rfl (qK3 (t:=116) rfl (by kernel_rfl) 3 (by kernel_rfl) w.heap.size rfl (show W1.drew.heap[w.heap.size]?=_ from hH1) rfl) ?_;refine hK _ _ ?_;clear hK K;simp only[zZ];refine zQ 2 fun K hK=>?_;go_simp;refine (zL6 N rb rs _ hN0 hb0 (by omega) hs0).mono ?_;rintro e w2 ⟨v2,rfl,hO2,hB2⟩;obtain⟨g2,cap2,cur2,rfl,hg2,hcs2,hp2⟩:=zK7 hO2;have hB2':Kp [] W1.drew w2:=Kp.of_below hB2 (Nat.le_refl _);have hA2:=hB2'.heap (k:=A) hA1 (by simp);have hC2:=hB2'.heap (k:=C) hC1 (by simp);have hV2:=hB2'.heap (k:=V) hV1 (by simp);have hH2:=hB2'.heap (k:=w.heap.size) hH1 (by simp);have hG2:=hB2'.heap (k:=w.heap.size+1) hG1 (by simp);have hK2:Kp [A,C] w w2:=(hK1.drew).tr hB2';have hs2:w.heap.size+2≤w2.heap.size:=by have:=hB2.size;simp at this;omega
 clear hB2 hB2' hA1 hC1 hV1 hH1 hG1 hK1 hO2;refine hK _ _ ?_;clear hK K
 try simp only[zZ]
 refine zQ 3 fun K hK=>?_;refine qJ9 rfl (zT0 rfl underlying90 Tryz.size5 (w.heap.size+1) 0 128 128 g2 0 32 cap2 32 rfl rfl (by decide) hG2 hg2 (by rw[qF2];decide) (by omega) (by rw[hp2];exact (qH3 _).one)) ?_;rw[hp2,zC6];have hblk:qH5.take 0++toB (qE5 N rb rs)++qH5.drop (0+(toB (qE5 N rb rs)).length)=qC0 N rb rs:=by
  rw[qI5,qV3];simp[qC0,qH5]
 rw[hblk];obtain⟨W3,hW3,hK3,hA3,hC3,hV3,hH3,hG3⟩:∃ W3,W3=w2.setRow (w.heap.size+1) (enc (qC0 N rb rs))∧Kp [A,C] w W3∧W3.heap[A]?=some (χ κ n C (.slice none 0 0) calls writes)∧W3.heap[C]?=some (.cells (enc l) 87)∧W3.heap[V]?=some (qB8 A n)∧
   W3.heap[w.heap.size]?=some (.cells #[.int .u64 N,.int .i64 rb,.int .u64 rs] 116)∧W3.heap[w.heap.size+1]?=some (.cells (enc (qC0 N rb rs)) 223):=
  ⟨_,rfl,hK2.setRow (Or.inr (by omega)) _,(setRow_other _ _ _ _ (by omega)).trans hA2,(setRow_other _ _ _ _ (by omega)).trans hC2,(setRow_other _ _ _ _ (by omega)).trans hV2,(setRow_other _ _ _ _ (by omega)).trans hH2,setRow_heap _ _ _ _ _ _ hG2⟩
 rw[←hW3];clear hW3 hA2 hC2 hV2 hH2 hG2 hK2 hg2 hcs2 hp2 hblk;refine hK _ _ ?_;clear hK K;refine wpAny_done (by kernel_rfl) ?_ _;simp only[zZ];go_wp2_with fail;have hhl:=qL3 N rb rs;refine wp_region_held_drew (S:=fun W=>W.heap[w.heap.size]?=some (.cells #[.int .u64 N,.int .i64 rb,.int .u64 rs] 116)∧W.heap[w.heap.size+1]?=some (.cells (enc (qC0 N rb rs)) 223)) (by kernel_rfl) ⟨hH3,hG3⟩ (fun _=>?_);refine zV 0 (.pointer (some ⟨V,0,none⟩)) rfl (fun W hS=>rfl) ⟨hH3,hG3⟩ ?_;refine zV 1 (.agg #[.int .u64 N,.int .i64 rb,.int .u64 rs]) rfl (fun W hS=>qK3 (t:=116) rfl (by kernel_rfl) 3 (by kernel_rfl) w.heap.size rfl hS.1 rfl) ⟨hH3,hG3⟩ ?_;refine zV 3 (.agg (enc (qC0 N rb rs))) rfl (fun W hS=>qK3 (t:=223) rfl (by kernel_rfl) 128 (by kernel_rfl) (w.heap.size+1) rfl hS.2 (by rw[qF2,qL3])) ⟨hH3,hG3⟩ ?_;refine zq 2 fun K hK=>?_;go_simp;refine (zD9 N rb rs _ hN0).mono ?_;rintro e w4 ⟨rfl,hB4⟩;rw[HN.out];have hB4':Kp [] W3.drew w4:=Kp.of_below hB4 (Nat.le_refl _);have hA4:=hB4'.heap (k:=A) hA3 (by simp);have hC4:=hB4'.heap (k:=C) hC3 (by simp);have hV4:=hB4'.heap (k:=V) hV3 (by simp);have hH4:=hB4'.heap (k:=w.heap.size) hH3 (by simp);have hG4:=hB4'.heap (k:=w.heap.size+1) hG3 (by simp);have hK4:Kp [A,C] w w4:=(hK3.drew).tr hB4';clear hB4 hB4' hA3 hC3 hV3 hH3 hG3 hK3;refine hK.out _ _ ⟨hH4,hG4⟩ (fun _=>?_);clear hK K
 try simp only[zZ]
 refine zq 4 fun K hK=>?_;go_simp;refine (xG1 V A n C w4.heap.size (.slice none 0 0) [] calls writes i (qC0 N rb rs) w4 hV4 hA4 (World.ownsRow_nil _ _ _ _) (by simp) (Nat.le_refl _) hi hn hhl hVA).mono ?_;rintro e w5 ⟨rfl,v5,hv5,hA5,hW5⟩;rw[List.nil_append] at hv5;have hs5:w.heap.size+2≤w4.heap.size:=by have:=ζ hG4;omega
 have hC5:=hW5.oth _ _ _ _ hC4 (by decide) hAC;have hV5:=hW5.oth _ _ _ _ hV4 (by decide) hVA;have hH5:=hW5.oth _ _ _ _ hH4 (by decide) (by omega);have hG5:=hW5.oth _ _ _ _ hG4 (by decide) (by omega);have hK5':Kp [A,C] w w5:=⟨hW5.os.trans hK4.os,hW5.tape.trans hK4.tape,hW5.output.trans hK4.output,Nat.le_trans hK4.size hW5.size,fun k hk hm=>(hW5.low k (by omega) (by simp at hm;exact hm.1)).trans (hK4.block k hk hm)⟩;clear hW5 hK4 hA4 hC4 hV4 hH4 hG4;refine hK.out _ _ ⟨hH5,hG5⟩ (fun _=>?_);clear hK K;refine zd ?_
 try simp only[zZ]
 clear hH5 hG5;go_wp2_with fail;refine (zF7 V A n C w4.heap.size v5 [(i,qC0 N rb rs)] (nx calls) (nx writes) l _ hV5 hA5 hv5 (by simpa using⟨hi,hhl⟩) (by simp) hn hC5 hs hAC).mono ?_;rintro e w6 ⟨rfl,hA6,hC6,hK6⟩;go_wp2
 go_end0
 exact⟨rfl,hA6,hC6,hK5'.tr hK6⟩
def Sto.led(s:Sto)(qb qs:Int):Sto:={ s with N:=s.N+1,rb:=qb,rs:=qs }
theorem zX7(St A n C:Nat)(s:Sto)(qb qs:Int)(l:List UInt8)(wr:Int)(w:World)(hSt:w.heap[St]?=some (τ 1 s))(hd:Devl s.V A n C l wr w)(hn:n≤1000)(hn2:2≤n)(hl:n*128≤l.length)(hAC:C≠A)(hVA:s.V≠A)(hVC:s.V≠C)(hN0:0≤s.N)(hN1:s.N≤1000000000)(hb0:0≤qb)(hb1:qb≤1000)(hs0:0≤qs)(i:Nat)(hi:(s.N+1) % 2=i):
  Calls prog 68 #[.pointer (some ⟨St,0,none⟩),.agg #[.int .i64 qb,.int .u64 qs]] w fun e w'=>e=.returned (.tuple #[])∧w'.heap[St]?=some (τ 1 (s.led qb qs))∧Devl s.V A n C (qC8 l i (qC0 (s.N+1) qb qs)) (nx wr) w'∧Kp [St,A,C] w w':=by
 have hSts:=ζ hSt;have HS:=zh hSt;have HD:=zh hd;have HI:=zh hi;clear hSt hd hi;go_enter func68,ntmps68;go_wp2_with fail;rename_i K0 hK0;obtain⟨w1,hw1,hT1,hK1,hs1⟩:=qE8 w (.cells #[.int .i64 qb,.int .u64 qs] 78);rw[←hw1];clear hw1;have hSd:w1.drew.heap[St]?=some (τ 1 s)∧w1.drew.heap[w.heap.size]?=some (.cells #[.int .i64 qb,.int .u64 qs] 78):=⟨hK1.hp HS.out,hT1⟩;refine qZ5 (α:=Nat→Act) (R:=fun A0=>∀ H W,W.heap[H]?=some (.cells #[.int .u64 (s.N+1),.int .i64 qb,.int .u64 qs] 116)→Kp [] w W→w.heap.size≤H→K0 (A0 H) W) ?_;apply Exists.intro;apply And.intro
 rotate_left
 ·intro HREST;refine wp_region_held_drew (S:=fun W=>W.heap[St]?=some (τ 1 s)∧W.heap[w.heap.size]?=some (.cells #[.int .i64 qb,.int .u64 qs] 78)) (by kernel_rfl) hSd (fun _=>?_);refine zP 0 St 0 hSd ?_;refine zV 1 (.pointer (some ⟨St,0,none⟩)) rfl (fun W hS=>by have c:=ζ hS.1;clear hS;go_simp) hSd ?_;refine zP 2 St 3 hSd ?_;refine zV 3 (.agg #[.int .u64 s.N,.int .i64 s.rb,.int .u64 s.rs]) rfl (fun W hS=>by have a3:=ξ hS.1 3;have a4:=ξ hS.1 4;have a5:=ξ hS.1 5;simp only[τ,zG,zH,zI] at a3 a4 a5;clear hS;go_simp) hSd ?_;refine zV 4 (.agg #[.int .i64 qb,.int .u64 qs]) rfl (fun W hS=>by have a:=ξ hS.2;clear hS;go_simp) hSd ?_;refine zr 5 6 (fun K hK=>?_) fun K hK=>?_
  ·skip
   go_simp;refine (zD4 s.N s.rb s.rs qb qs w1.drew hN0 hN1).mono ?_;rintro e w2 ⟨rfl,hB2⟩;have hK2:Kp [] w1.drew w2:=Kp.of_below hB2 (Nat.le_refl _);have hS2:=And.intro (hK2.hp hSd.1) (hK2.hp hSd.2);refine hK.out _ _ hS2 (fun _=>?_);clear hK K hB2
   try simp only[zZ]
   refine zq 6 fun K hK=>?_;go_simp;obtain⟨w3,hw3,hH3,hK3,hs3⟩:=qE8 w2 (.cells #[.int .u64 0,.int .i64 0,.int .u64 0] 116);obtain⟨B,hB⟩:∃ B,B=w2.heap.size:=⟨_,rfl⟩;rw[←hw3,←hB];rw[←hB] at hH3;have hs2:=hK2.size;have hBge:w.heap.size<B:=by rw[hB];have:w1.heap.size≤w2.heap.size:=hs2;omega
   clear hw3 hB;have hS3:=And.intro (hK3.hp hS2.1) (hK3.hp hS2.2);refine hK.out _ _ hS3 (fun _=>?_);clear hK K
   try simp only[zZ]
   refine zq 7 fun K hK=>?_;have z0:=ξ hH3;have f0:=ρ hH3;have hHs:=ζ hH3;have HH:=zh hH3;go_simp;have hKs:Kp [B] w3 (((w3.setCell ⟨B,0,none⟩ (.int .u64 (s.N+1))).setCell ⟨B,1,none⟩ (.int .i64 qb)).setCell ⟨B,2,none⟩ (.int .u64 qs)):=(((Kp.refl _ _).sc _).sc _).sc _;have hH5:=ω (ω (ω HH.out 0 (.int .u64 (s.N+1))) 1 (.int .i64 qb)) 2 (.int .u64 qs);generalize ((w3.setCell ⟨B,0,none⟩ (.int .u64 (s.N+1))).setCell ⟨B,1,none⟩ (.int .i64 qb)).setCell ⟨B,2,none⟩ (.int .u64 qs)=w5 at hKs hH5 ⊢;refine hK.out _ _ ⟨hKs.heap hS3.1 (by simp<;>omega),hKs.heap hS3.2 (by simp<;>omega)⟩ (fun _=>?_);clear hK K;refine zd ?_
   try simp only[zZ]
   show K0 _ w5;exact HREST B w5 hH5 ((((hK1.drew).tr hK2).tr hK3).trans hKs (by simp<;>omega)) (by omega)
  ·go_simp;obtain⟨w3,hw3,hH3,hK3,hs3⟩:∃ w3,w3=(w1.alloc (.cells #[.int .u64 0,.int .i64 0,.int .u64 0] 116)).drew∧w3.heap[w.heap.size+1]?=some (.cells #[.int .u64 0,.int .i64 0,.int .u64 0] 116)∧Kp [] w1 w3∧w3.heap.size=w1.heap.size+1:=⟨_,rfl,by rw[←hs1];exact μ w1 _,((Kp.refl _ _).alloc _).drew,by simp⟩;rw[←hw3];clear hw3;have hS3:=And.intro (hK3.hp hSd.1) (hK3.hp hSd.2);refine hK.out _ _ hS3 (fun _=>?_);clear hK K
   try simp only[zZ]
   refine zq 5 fun K hK=>?_;go_simp;refine (zD4 s.N s.rb s.rs qb qs w3 hN0 hN1).mono ?_;rintro e w2 ⟨rfl,hB2⟩;have hK2:Kp [] w3 w2:=Kp.of_below hB2 (Nat.le_refl _);have hS2:=And.intro (hK2.hp hS3.1) (hK2.hp hS3.2);refine hK.out _ _ hS2 (fun _=>?_);clear hK K hB2
   try simp only[zZ]
   have hH4:=hK2.hp hH3;refine zq 7 fun K hK=>?_;have z0:=ξ hH4;have f0:=ρ hH4;have hHs:=ζ hH4;have HH:=zh hH4;go_simp;have hKs:Kp [(w.heap.size+1)] w2 (((w2.setCell ⟨(w.heap.size+1),0,none⟩ (.int .u64 (s.N+1))).setCell ⟨(w.heap.size+1),1,none⟩ (.int .i64 qb)).setCell ⟨(w.heap.size+1),2,none⟩ (.int .u64 qs)):=(((Kp.refl _ _).sc _).sc _).sc _;have hH5:=ω (ω (ω HH.out 0 (.int .u64 (s.N+1))) 1 (.int .i64 qb)) 2 (.int .u64 qs);generalize ((w2.setCell ⟨(w.heap.size+1),0,none⟩ (.int .u64 (s.N+1))).setCell ⟨(w.heap.size+1),1,none⟩ (.int .i64 qb)).setCell ⟨(w.heap.size+1),2,none⟩ (.int .u64 qs)=w5 at hKs hH5 ⊢;refine hK.out _ _ ⟨hKs.heap hS2.1 (by simp<;>omega),hKs.heap hS2.2 (by simp<;>omega)⟩ (fun _=>?_);clear hK K;refine zd ?_
   try simp only[zZ]
   show K0 _ w5;exact HREST (w.heap.size+1) w5 hH5 (((hK1.tr hK3).tr hK2).tr hKs) (by omega)
 intro H W hH hKW hHge;refine hK0 _ _ ?_;clear hK0 K0 hSd hK1 hT1;go_wp2_with fail;have hHs:=ζ hH;have hVs:=ζ HD.out.hV;have hCs:=ζ HD.out.hC;have hS2:W.drew.heap[St]?=some (τ 1 s)∧W.drew.heap[H]?=some (.cells #[.int .u64 (s.N+1),.int .i64 qb,.int .u64 qs] 116):=⟨hKW.hp HS.out,hH⟩;obtain⟨calls,hA⟩:=HD.out.hA;have hAs:=ζ hA;have hStA:St≠A:=by intro e;subst e;rw[HS.out] at hA;simp[τ,χ] at hA
 have hStC:St≠C:=by intro e;subst e;have h:=HD.out.hC;rw[HS.out] at h;simp[τ] at h
 refine wp_region_held_drew (S:=fun W=>W.heap[St]?=some (τ 1 s)∧W.heap[H]?=some (.cells #[.int .u64 (s.N+1),.int .i64 qb,.int .u64 qs] 116)) (by kernel_rfl) hS2 (fun _=>?_);refine zP 0 St 0 hS2 ?_;refine zV 1 (.pointer (some ⟨St,0,none⟩)) rfl (fun W hS=>by have c:=ζ hS.1;clear hS;go_simp) hS2 ?_;refine zP 2 St 2 hS2 ?_;refine zV 3 (.pointer (some ⟨s.V,0,none⟩)) rfl (fun W hS=>by have a:=ξ hS.1 2;simp only[τ,zG,zH,zI] at a;clear hS;go_simp) hS2 ?_;refine zV 4 (.agg #[.int .u64 (s.N+1),.int .i64 qb,.int .u64 qs]) rfl (fun W hS=>by have a:=ξ hS.2;clear hS;go_simp) hS2 ?_;refine zq 5 fun K hK=>?_;go_simp;refine (jB0 s.V A n C calls wr i (s.N+1) qb qs l W.drew (hKW.hp HD.out.hV) (hKW.hp hA) (by have:=HI.out;omega) hn (hKW.hp HD.out.hC) hl hAC hVA hVC HI.out (by omega) hb0 hb1 hs0).mono ?_;rintro e w3 ⟨rfl,hA3,hC3,hK3⟩;have hS3:=And.intro (hK3.heap hS2.1 (by simp[hStA,hStC])) (hK3.heap hS2.2 (by simp<;>omega));have hV3:=hK3.heap (hKW.hp HD.out.hV) (by simp[hVA,hVC]);refine hK.out _ _ hS3 (fun _=>?_);clear hK K;refine zd ?_
 try simp only[zZ]
 have hSts3:=ζ hS3.1;have hHs3:=ζ hS3.2;have y3:=ξ hS3.1 3;have y4:=ξ hS3.1 4;have y5:=ξ hS3.1 5;simp only[τ,zG,zH,zI] at y3 y4 y5;have g3:=ρ hS3.1;have z0:=ξ hS3.2;have hHSt:H≠St:=by omega
 have HE:Hid (w3.heap[St]?=some (τ 1 s)∧w3.heap[s.V]?=some (qB8 A n)∧w3.heap[A]?=some (χ ((qC8 l i (qC0 (s.N+1) qb qs)).length / 128) n C (.slice none 0 0) (nx (nx calls)) (nx wr))∧w3.heap[C]?=some (.cells (enc (qC8 l i (qC0 (s.N+1) qb qs))) 87)∧Kp [A,C] w w3):=⟨hS3.1,hV3,by rw[xG7 l _ i n (qL3 _ _ _) hl (by have:=HI.out;omega)];exact hA3,hC3,(Kp.mono (S':=[A,C]) hKW (by simp)).trans (((Kp.refl [A,C] W).drew).tr hK3) (by simp)⟩;clear hS2 hS3 hA3 hC3 hV3 hK3 hH hKW;go_wp2
 go_end0
 obtain⟨e1,e2,e3,e4,e5⟩:=HE.out;have hKs:Kp [St] w3 (((w3.setCell ⟨St,3,none⟩ (.int .u64 (s.N+1))).setCell ⟨St,4,none⟩ (.int .i64 qb)).setCell ⟨St,5,none⟩ (.int .u64 qs)):=(((Kp.refl _ _).sc _).sc _).sc _;have hVSt:s.V≠St:=by intro e;rw[e,e1] at e2;simp[τ,qB8] at e2
 exact⟨rfl,ω (ω (ω e1 3 _) 4 _) 5 _,⟨hKs.heap e2 (by simpa using hVSt),⟨_,hKs.heap e3 (by simpa using hStA.symm)⟩,hKs.heap e4 (by simpa using hStC.symm)⟩,(e5.mono (by simp +contextual)).tr hKs⟩
theorem jI6{h h':HL}(hk:h.key.size≤8)(hk':h'.key.size≤8)(hp:h.p=none)(hp':h'.p=none)(b0:0≤h.b∧h.b<65536)(b0':0≤h'.b∧h'.b<65536)(s0:0≤h.s∧h.s<18446744073709551616)(s0':0≤h'.s∧h'.s<18446744073709551616){r r':List Int}(e:qD9 h++r=qD9 h'++r'):h=h'∧r=r':=by
 simp only[qD9,List.append_assoc] at e;obtain⟨e1,e2⟩:=List.append_inj e (by rw[qG5,qG5]);obtain⟨e3,e4⟩:=List.append_inj e2 (by rw[qG5,qG5]);simp only[List.cons_append,List.nil_append,List.cons.injEq] at e4;obtain⟨e5,e6⟩:=e4;obtain⟨e7,e8⟩:=List.append_inj e6 (by rw[qR4,qR4];omega);have n1:=congrArg qE4 e1;rw[qL4 2 _ (by omega) b0.1 (by simpa using b0.2),qL4 2 _ (by omega) b0'.1 (by simpa using b0'.2)] at n1;have n2:=congrArg qE4 e3;rw[qL4 8 _ (by omega) s0.1 (by simpa using s0.2),qL4 8 _ (by omega) s0'.1 (by simpa using s0'.2)] at n2;refine⟨?_,e8⟩;cases h;cases h';simp only at hp hp' n1 n2 e7;rw[zL8 e7,n1,n2,hp,hp']
def xA5(h:HL):Prop:=h.p=none∧h.key.size≤8∧0≤h.b∧h.b<65536∧0≤h.s∧h.s<18446744073709551616
theorem zJ5:∀ (ps ps':List HL) (r r':List Int),(∀ p∈ps,xA5 p)→(∀ p∈ps',xA5 p)→ps.length=ps'.length→ps.flatMap qD9++r=ps'.flatMap qD9++r'→ps=ps'
 | [],[],_,_,_,_,_,_=>rfl
 | [],_::_,_,_,_,_,h,_=>by cases h
 | _::_,[],_,_,_,_,h,_=>by cases h
 | p::ps,p'::ps',r,r',h1,h2,hl,h=>by
  rw[List.flatMap_cons,List.flatMap_cons,List.append_assoc,List.append_assoc] at h;obtain⟨a1,a2,a3,a4,a5,a6⟩:=h1 p (by simp);obtain⟨c1,c2,c3,c4,c5,c6⟩:=h2 p' (by simp);obtain⟨e1,e2⟩:=jI6 a2 c2 a1 c1 ⟨a3,a4⟩ ⟨c3,c4⟩ ⟨a5,a6⟩ ⟨c5,c6⟩ h;rw[e1,zJ5 ps ps' r r' (fun q hq=>h1 q (by simp[hq])) (fun q hq=>h2 q (by simp[hq])) (by simpa using hl) e2]
theorem zI3{N:Nat}{l:List UInt8}(hN:N≤1000):∀ {n b:Nat} {s:Int} {t:Tn n},Laid N l n b s t→∃ ps hs,ι l b=toB (qA1 (n:Int) ps hs)∧∀ x∈qA1 (n:Int) ps hs,0≤x∧x<256
 | 0,b,s,t,h=>by
  obtain⟨_,_,_,h4,h5,h6,h7⟩:=h;exact⟨prs t,[],h4,qH0 0 _ [] (by omega) (by omega) (by simp;omega) h5 (by simp)⟩
 | n+1,b,s,t,h=>by
  obtain⟨_,_,h3,hs,h4,h5,h6,h7,h8,h9⟩:=h;exact⟨[],hs,h6,qH0 _ [] hs (by omega) (by omega) (by simp;omega) (by simp) h7⟩
theorem qU6{N:Nat}{l:List UInt8}(hN:N≤1000){n n' b:Nat}{s s':Int}{t:Tn n}{t':Tn n'}(h:Laid N l n b s t)(h':Laid N l n' b s' t'):n=n':=by
 obtain⟨ps,hs,e1,g1⟩:=zI3 hN h;obtain⟨ps',hs',e2,g2⟩:=zI3 hN h';rw[e1] at e2;have:=(qV0 (qT5 g1 g2 e2)).1;omega
theorem zC8{N:Nat}{l:List UInt8}(hN:N≤1000):∀ (n b:Nat) (s s':Int) (t t':Tn n),Laid N l n b s t→Laid N l n b s' t'→s=s'∧t=t'
 | 0,b,s,s',t,t',h,h'=>by
  obtain⟨_,_,h3,h4,h5,h6,h7⟩:=h;obtain⟨_,_,g3,g4,g5,g6,g7⟩:=h';rw[h4] at g4;have e:=qT5 (qH0 0 _ [] (by omega) (by omega) (by simp;omega) h5 (by simp)) (qH0 0 _ [] (by omega) (by omega) (by simp;omega) g5 (by simp)) g4;refine⟨by rw[h3,g3,e],?_⟩;obtain⟨_,hl,r,r',e2⟩:=qV0 e;exact zK9 (prs t) (prs t') _ _ h5 g5 (by simpa using hl) e2
 | n+1,b,s,s',t,t',h,h'=>by
  obtain⟨_,_,h2,hs,h3,h4,h5,h6,h7,h8⟩:=h;obtain⟨_,_,g2,hs',g3,g4,g5,g6,g7,g8⟩:=h';rw[h5] at g5;have e:=qT5 (qH0 _ [] hs (by omega) (by omega) (by simp;omega) (by simp) h6) (qH0 _ [] hs' (by omega) (by omega) (by simp;omega) (by simp) g6) g5;refine⟨by rw[h4,g4,e],?_⟩;obtain⟨_,hl,r,r',e2⟩:=qV0 e;simp only[List.flatMap_nil,List.nil_append] at e2;have ehs:=zJ5 hs hs' _ _ (fun p hp=>Laid.links h3 h6 hN p hp) (fun p hp=>Laid.links g3 g6 hN p hp) (by simpa using hl) e2;subst ehs;refine (List.ext_getElem (h3.1.symm.trans g3.1) fun i a1 a2=>?_:η t=η t');have r1:=h3.2 i (by rw[h3.1];exact a1) a1;have r2:=g3.2 i (by rw[h3.1];exact a1) a2;obtain⟨k1,m1⟩:=r1;obtain⟨k2,m2⟩:=r2
  cases x1:(η t)[i].ref with
  | none=>rw[x1] at m1;obtain⟨_,_,q,_,hf⟩:=m1;exact hf.elim
  | some y1=>
   cases x2:(η t')[i].ref with
   | none=>rw[x2] at m2;obtain⟨_,_,q,_,hf⟩:=m2;exact hf.elim
   | some y2=>
    rw[x1] at m1;rw[x2] at m2;obtain⟨b1,s1,_,L1⟩:=m1;obtain⟨b2,s2,_,L2⟩:=m2;have eb:y1.1=y2.1:=by omega
    rw[←eb] at L2;have es:=zC8 hN n y1.1 _ _ _ _ L1 L2;have ey:y1=y2:=Prod.ext eb es.1;have hk:(η t)[i].key=(η t')[i].key:=k1.symm.trans k2;have hx:(η t)[i].ref=(η t')[i].ref:=by rw[x1,x2,ey]
    have hsub:=es.2
    revert hk hx hsub
    generalize (η t)[i]=u;generalize (η t')[i]=v;intro hk hx hsub;cases u;cases v;simp only at hk hx hsub;rw[hk,hx,hsub]
def Cl(N:Nat)(l:List UInt8)(n:Nat)(ks:List Nat):Prop:=∀ (m b:Nat) (s:Int) (t:Tn m),m<n→Laid N l m b s t→b∈ks→∀ k∈Blk m b t,k∈ks
def xL9(N:Nat)(l:List UInt8)(n:Nat)(ks ks':List Nat):Prop:=∀ k∈ks',k∈ks∨∃ (m:Nat) (s:Int) (t:Tn m),m<n∧Laid N l m k s t
structure Bel(N:Nat)(l:List UInt8)(n:Nat)(ks ks':List Nat):Prop where
 sub:∀ k∈ks,k∈ks'
 new:xL9 N l n ks ks'
 cl:Cl N l n ks'
theorem Bel.refl{N n:Nat}{l:List UInt8}{ks:List Nat}(h:Cl N l n ks):Bel N l n ks ks:=⟨fun _ h=>h,fun _ h=>Or.inl h,h⟩
theorem Bel.trans{N n:Nat}{l:List UInt8}{a b c:List Nat}(h:Bel N l n a b)(k:Bel N l n b c):Bel N l n a c:=
 ⟨fun x hx=>k.sub x (h.sub x hx),fun x hx=>by
  rcases k.new x hx with h1|h1
  ·exact h.new x h1
  ·exact Or.inr h1,k.cl⟩
def zF9(N:Nat)(l:List UInt8)(n:Nat):Prop:=∀ (t:Tn n) (ks:List Nat),Cl N l n ks→(∀ n' (e:n=n'+1),∀ m∈η (e ▸ t:Tn (n'+1)),qL2 N l n' m)→
 Bel N l n ks (qF6 n t ks)∧∀ n' (e:n=n'+1),∀ m∈η (e ▸ t:Tn (n'+1)),∀ k∈qI6 n' m,k∈qF6 n t ks
theorem xA7{N:Nat}{l:List UInt8}:∀ {n:Nat} {m:Lnk (Tn n)},qL2 N l n m→∀ n' (e:n=n'+1),∀ u∈η (e ▸ m.sub:Tn (n'+1)),qL2 N l n' u
 | 0,_,_,n',e=>by cases e
 | n+1,m,h,n',e=>by
  cases e;intro u hu
  cases hx:m.ref with
  | none=>exact h.2 hx u hu
  | some x=>
   obtain⟨_,_,_,hs,hb,_⟩:=h.1 x hx;obtain⟨i,hi,rfl⟩:=List.getElem_of_mem hu;have h2:=(hb.2 i (by rw[hb.1];exact hi) hi).2;have key:∀ y,(η m.sub)[i].ref=some y→Laid N l n y.1 y.2 (η m.sub)[i].sub:=fun y hy=>by rw[hy] at h2;exact h2.2.2.2
   have hnn:(η m.sub)[i].ref≠none:=fun hn=>by rw[hn] at h2;obtain⟨_,_,q,_,hf⟩:=h2;exact hf
   cases n with
   | zero=>exact key
   | succ n=>exact⟨key,fun hn=>absurd hn hnn⟩
theorem qS5{n:Nat}{m:Lnk (Tn n)}{x:Nat × Int}(h:m.ref=some x):qI6 n m=Blk n x.1 m.sub:=by
 cases n<;>simp only[qI6,h]
theorem jL2{N:Nat}{l:List UInt8}{n:Nat}{m:Lnk (Tn n)}(h:qL2 N l n m){x:Nat × Int}(hx:m.ref=some x):Laid N l n x.1 x.2 m.sub:=by
 cases n with
 | zero=>exact h x hx
 | succ n=>exact h.1 x hx
theorem xQ6{n b:Nat}{t:Tn n}{k:Nat}(h:k∈Blk n b t):k=b∨∃ n',∃ e:n=n'+1,∃ u∈η (e ▸ t:Tn (n'+1)),k∈qI6 n' u:=by
 cases n with
 | zero=>exact Or.inl (by simpa [Blk] using h)
 | succ n=>
  simp only[Blk,List.mem_cons,List.mem_flatMap] at h;rcases h with h|⟨u,hu,hk⟩
  ·exact Or.inl h
  ·refine Or.inr ⟨n,rfl,u,hu,?_⟩
   cases hx:u.ref with
   | none=>rw[hx] at hk;cases hk
   | some x=>rw[hx] at hk;rw[qS5 hx];exact hk
theorem xH4{N:Nat}{l:List UInt8}(hN:N≤1000)(n:Nat)(IH:zF9 N l n)(m:Lnk (Tn n))(hm:qL2 N l n m)(ks:List Nat)(hc:Cl N l (n+1) ks):
  Bel N l (n+1) ks (qG2 (qF6 n) ks m)∧∀ k∈qI6 n m,k∈qG2 (qF6 n) ks m:=by
 cases hx:m.ref with
 | none=>
  have e:qG2 (qF6 n) ks m=qF6 n m.sub ks:=by simp only[qG2,hx]
  rw[e];obtain⟨hb,hblk⟩:=IH m.sub ks (fun m' b s t h=>hc m' b s t (by omega)) (xA7 hm);refine⟨⟨hb.sub,fun k hk=>?_,fun m' b s t hlt hL hbk k hk=>?_⟩,fun k hk=>?_⟩
  ·rcases hb.new k hk with h|⟨a,s,t,h1,h2⟩
   ·exact Or.inl h
   ·exact Or.inr ⟨a,s,t,by omega,h2⟩
  ·by_cases hmn:m'<n
   ·exact hb.cl m' b s t hmn hL hbk k hk
   ·rcases hb.new b hbk with h|⟨a,s',t',h1,h2⟩
    ·exact hb.sub k (hc m' b s t hlt hL h k hk)
    ·have:=qU6 hN hL h2;omega
  ·cases n with
   | zero=>simp[qI6,hx] at hk
   | succ n=>
    simp only[qI6,hx,List.mem_flatMap] at hk;obtain⟨u,hu,hk⟩:=hk;exact hblk n rfl u hu k hk
 | some x=>
  have hL:=jL2 hm hx;by_cases hin:x.1∈ks
  ·have e:qG2 (qF6 n) ks m=ks:=by simp only[qG2,hx,if_pos hin]
   rw[e];exact⟨Bel.refl hc,fun k hk=>by rw[qS5 hx] at hk;exact hc n x.1 x.2 m.sub (by omega) hL hin k hk⟩
  ·have e:qG2 (qF6 n) ks m=qF6 n m.sub (x.1::ks):=by simp only[qG2,hx,if_neg hin]
   rw[e];have hc1:Cl N l n (x.1::ks):=fun m' b s t hlt hL' hb k hk=>by
    rcases List.mem_cons.1 hb with rfl|hb
    ·have:=qU6 hN hL' hL;omega
    ·exact List.mem_cons_of_mem _ (hc m' b s t (by omega) hL' hb k hk)
   obtain⟨hb,hblk⟩:=IH m.sub (x.1::ks) hc1 (xA7 hm);have hall:∀ k∈Blk n x.1 m.sub,k∈qF6 n m.sub (x.1::ks):=fun k hk=>by
    rcases xQ6 hk with rfl|⟨n',e',u,hu,hk⟩
    ·exact hb.sub _ List.mem_cons_self
    ·exact hblk n' e' u hu k hk
   refine⟨⟨fun k hk=>hb.sub k (List.mem_cons_of_mem _ hk),fun k hk=>?_,fun m' b s t hlt hL' hbk k hk=>?_⟩,fun k hk=>by rw[qS5 hx] at hk;exact hall k hk⟩
   ·rcases hb.new k hk with h|⟨a,s,t,h1,h2⟩
    ·rcases List.mem_cons.1 h with rfl|h
     ·exact Or.inr ⟨n,x.2,m.sub,by omega,hL⟩
     ·exact Or.inl h
    ·exact Or.inr ⟨a,s,t,by omega,h2⟩
   ·by_cases hmn:m'<n
    ·exact hb.cl m' b s t hmn hL' hbk k hk
    ·have hmn':m'=n:=by omega
     subst hmn';rcases hb.new b hbk with h|⟨a,s',t',h1,h2⟩
     ·rcases List.mem_cons.1 h with rfl|h
      ·rw[(zC8 hN _ _ _ _ _ _ hL' hL).2] at hk;exact hall k hk
      ·exact hb.sub k (List.mem_cons_of_mem _ (hc _ b s t hlt hL' h k hk))
     ·have:=qU6 hN hL' h2;omega
theorem zU1{N:Nat}{l:List UInt8}(hN:N≤1000)(n:Nat)(IH:zF9 N l n):∀ (ls:List (Lnk (Tn n))) (ks:List Nat),(∀ m∈ls,qL2 N l n m)→Cl N l (n+1) ks→
  Bel N l (n+1) ks (ls.foldl (qG2 (qF6 n)) ks)∧∀ m∈ls,∀ k∈qI6 n m,k∈ls.foldl (qG2 (qF6 n)) ks
 | [],ks,_,hc=>⟨Bel.refl hc,fun m hm=>by cases hm⟩
 | a::ls,ks,h,hc=>by
  obtain⟨h1,h2⟩:=xH4 hN n IH a (h a (by simp)) ks hc;obtain⟨h3,h4⟩:=zU1 hN n IH ls (qG2 (qF6 n) ks a) (fun m hm=>h m (by simp[hm])) h1.cl;refine⟨h1.trans h3,fun m hm k hk=>?_⟩;rcases List.mem_cons.1 hm with rfl|hm
  ·exact h3.sub k (h2 k hk)
  ·exact h4 m hm k hk
theorem zQ0{N:Nat}{l:List UInt8}(hN:N≤1000):∀ n,zF9 N l n
 | 0=>fun t ks hc _=>⟨Bel.refl hc,fun n' e=>by cases e⟩
 | n+1=>fun t ks hc ho=>by
  obtain⟨h1,h2⟩:=zU1 hN n (zQ0 hN n) (η t) ks (ho n rfl) hc;exact⟨h1,fun n' e=>by cases e;exact h2⟩
def ClA(N:Nat)(l:List UInt8)(ks:List Nat):Prop:=∀ n,Cl N l n ks
def qO4:Root→List Nat
 | .none=>[]
 | .at n l=>qI6 n l
def qP3(N:Nat)(l:List UInt8):Root→Prop
 | .none=>True
 | .at n m=>qL2 N l n m
theorem ClA.nil(N:Nat)(l:List UInt8):ClA N l []:=fun n m b s t _ _ h=>by cases h
theorem zO8{N:Nat}{l:List UInt8}(hN:N≤1000)(rt:Root)(ks:List Nat)(ho:qP3 N l rt)(hc:ClA N l ks):(∀ k∈ks,k∈qA8 ks rt)∧ClA N l (qA8 ks rt)∧∀ k∈qO4 rt,k∈qA8 ks rt:=by
 cases rt with
 | none=>exact⟨fun _ h=>h,hc,fun k hk=>by cases hk⟩
 | «at» n m=>
  obtain⟨h1,h2⟩:=xH4 hN n (zQ0 hN n) m ho ks (hc (n+1));refine⟨h1.sub,fun p m' b s t hlt hL hb k hk=>?_,h2⟩;rcases h1.new b hb with h|⟨a,s',t',e1,e2⟩
  ·exact h1.sub k (hc p m' b s t hlt hL h k hk)
  ·exact h1.cl m' b s t (by have:=qU6 hN hL e2;omega) hL hb k hk
theorem zO9{N:Nat}{l:List UInt8}(hN:N≤1000):∀ (rs:List Root) (ks:List Nat),(∀ r∈rs,qP3 N l r)→ClA N l ks→(∀ k∈ks,k∈rs.foldl qA8 ks)∧ClA N l (rs.foldl qA8 ks)∧∀ r∈rs,∀ k∈qO4 r,k∈rs.foldl qA8 ks
 | [],ks,_,hc=>⟨fun _ h=>h,hc,fun r hr=>by cases hr⟩
 | a::rs,ks,h,hc=>by
  obtain⟨h1,h2,h3⟩:=zO8 hN a ks (h a (by simp)) hc;obtain⟨g1,g2,g3⟩:=zO9 hN rs (qA8 ks a) (fun r hr=>h r (by simp[hr])) h2;refine⟨fun k hk=>g1 k (h1 k hk),g2,fun r hr k hk=>?_⟩;rcases List.mem_cons.1 hr with rfl|hr
  ·exact g1 k (h3 k hk)
  ·exact g3 r hr k hk
theorem zH4{N:Nat}{ks:List Nat}:∀ b∈qC4 N ks,2≤b∧b<N∧b ∉ ks:=by
 intro b hb;simp only[qC4,List.mem_filter,List.mem_range'_1,decide_eq_true_eq] at hb;exact⟨hb.1.1,by omega,hb.2⟩
theorem xZ1(N:Nat)(ks:List Nat):(qC4 N ks).Nodup:=List.Pairwise.filter _ List.nodup_range'
theorem xT5{N:Nat}{l:List UInt8}(hN:N≤1000)(hl:N*128≤l.length)(n:Nat)(L:Lnk (Tn n))(rs:List Root)(ho:qL2 N l n L)(hok:OkL n L)(hn6:n<6)(hrs:∀ r∈rs,qP3 N l r)
  (hfit:news n L≤(qC4 N (rs.foldl qA8 (qA8 [] (.at n L)))).length) (ws:List (Nat × List UInt8)) (hws:ws=(qA0 n L (qC4 N (rs.foldl qA8 (qA8 [] (.at n L))))).2.1):
  (∀ x∈ws,x.1<N∧x.2.length=128)∧(∃ x,(qA0 n L (qC4 N (rs.foldl qA8 (qA8 [] (.at n L))))).1.ref=some x∧Laid N (laidAll l ws) n x.1 x.2 (qA0 n L (qC4 N (rs.foldl qA8 (qA8 [] (.at n L))))).1.sub)∧
  (∀ r∈rs,∀ k∈qO4 r,ι (laidAll l ws) k=ι l k)∧(∀ k,k<2→ι (laidAll l ws) k=ι l k):=by
 obtain⟨a1,a2,a3⟩:=zO8 hN (.at n L) [] ho (ClA.nil N l);obtain⟨b1,b2,b3⟩:=zO9 hN rs _ hrs a2;have hfo:=zH4 (N:=N) (ks:=rs.foldl qA8 (qA8 [] (.at n L)));have hnd:=xZ1 N (rs.foldl qA8 (qA8 [] (.at n L)));generalize rs.foldl qA8 (qA8 [] (.at n L))=ks at *;have hfst:=zI8 n L (qC4 N ks) hfit;rw[←hws] at hfst;have hin:∀ x∈ws,x.1∈qC4 N ks:=fun x hx=>by
  have h:x.1∈ws.map Prod.fst:=List.mem_map_of_mem hx;rw[hfst] at h;exact List.mem_of_mem_take h
 have hw:∀ x∈ws,x.1<N∧x.2.length=128:=fun x hx=>⟨(hfo x.1 (hin x hx)).2.1,zI9 n L _ hok x (by rw[←hws];exact hx)⟩;have hkeep:∀ k,(k∈ks∨k<2)→ι (laidAll l ws) k=ι l k:=fun k hk=>zQ3 N k ws l hl hw (fun hm=>by
  obtain⟨x,hx,rfl⟩:=List.mem_map.1 hm;have h:=hfo _ (hin x hx);rcases hk with hk|hk
  ·exact h.2.2 hk
  ·omega)
 refine⟨hw,?_,fun r hr k hk=>hkeep k (Or.inl (b3 r hr k hk)),fun k hk=>hkeep k (Or.inr hk)⟩;refine zW4 N l (laidAll l ws) n L (qC4 N ks) ho hok hn6 (fun b hb=>⟨(hfo b hb).1,(hfo b hb).2.1⟩) hfit (fun x hx=>?_) (fun k hk=>hkeep k (Or.inl (b1 k (a3 k hk))));rw[←hws] at hx;refine xQ5 N ws x l hl hw ?_ hx;rw[hfst];exact hnd.sublist (List.take_sublist _ _)
theorem jB3:(prog.info? 186).map (·.size)=some 2:=by kernel_rfl
theorem zS9(d:Nat)(a:Addr)(W:World):Sem.run prog (Op.equalIn (d+1) 76 (.pointer (some a)) (.pointer (some a))) W=.ok true W:=by
 obtain⟨i,hi,hs⟩:=Option.map_eq_some_iff.1 jB3;simp[Op.equalIn,run_underlying underlying76,run_sizeOf W hi,hs,run_sameAddr_same]
theorem xI2(V:Nat)(h:HL)(rb rs:Int)(hp:h.p=none)(hk:h.key=⟨#[]⟩)(W:World):
  Sem.run prog (Op.equalIn 10000 83 (φ V h) (φ V ⟨⟨#[]⟩,rb,rs,none⟩)) W=.ok (decide (h.b=rb∧h.s=rs)) W:=by
 have heq:∀ W:World,Sem.run prog (Op.equalIn 9998 79 (.pointer none) (.pointer none)) W=.ok true W:=fun W=>qX0 9997 W;have heq2:∀ W:World,Sem.run prog (Op.equalIn 9997 79 (.pointer none) (.pointer none)) W=.ok true W:=fun W=>qX0 9996 W;have hv:=zS9 9998 ⟨V,0,none⟩;have hptr:h.ptr=none:=by simp[HL.ptr,hp]
 rw[φ,φ,hptr,hk,show HL.ptr ⟨⟨#[]⟩,rb,rs,none⟩=none from rfl];go_simp;by_cases h1:h.b=rb<;>by_cases h2:h.s=rs<;>simp[h1,h2]
theorem xI1(V q:Nat)(h:HL)(rb rs:Int)(hp:h.p=some q)(hk:h.key=⟨#[]⟩)(W:World):
  Sem.run prog (Op.equalIn 10000 83 (φ V h) (φ V ⟨⟨#[]⟩,rb,rs,none⟩)) W=.ok false W:=by
 have heq:∀ W:World,Sem.run prog (Op.equalIn 9998 79 (.pointer (some ⟨q,0,none⟩)) (.pointer none)) W=.ok false W:=fun W=>zS8 9997 _ W;have hv:=zS9 9998 ⟨V,0,none⟩;have hptr:h.ptr=some ⟨q,0,none⟩:=by simp[HL.ptr,hp]
 rw[φ,φ,hptr,hk,show HL.ptr ⟨⟨#[]⟩,rb,rs,none⟩=none from rfl];go_simp
end Go.Proofs.YtdohpenfkdckiabGreatDoor
namespace Go.Proofs.YtdohpenfkdckiabGreatDoor
open Go.Proofs.Tryz
open Go.RowKit
open Go.Maps (Keyed)
attribute [local go_sem] Oper.semAt_some
structure Come(D:DataW Unit)(left:Lit→Bool)(ks:List Int):Prop where
 sub:∀ kl,left kl=true→Maps.has D kl=true
 has:∀ x∈ks,Maps.has D (qA4 x)=true∧keyOf prog 75 (.int .u64 x)=some (qA4 x)
 all:∀ kl,Maps.has D kl=true→left kl=true∨∃ x∈ks,kl=qA4 x
theorem Come.start(D:DataW Unit):Come D (Maps.has D) []:=⟨fun _ h=>h,fun x hx=>(by cases hx),fun _ h=>Or.inl h⟩
theorem Come.step{D:DataW Unit}{left:Lit→Bool}{ks:List Int}(h:Come D left ks){x:Int}(hx:left (qA4 x)=true)(hk:keyOf prog 75 (.int .u64 x)=some (qA4 x)):Come D (fun z=>left z && !z.sameKey (qA4 x)) (ks++[x]):=by
 refine⟨fun kl hk=>h.sub kl (by simp at hk;exact hk.1),fun y hy=>?_,fun kl hk=>?_⟩
 ·rcases List.mem_append.1 hy with hy|hy
  ·exact h.has y hy
  ·rw[List.mem_singleton.1 hy];exact⟨h.sub _ hx,hk⟩
 ·rcases h.all kl hk with h1|⟨y,hy,e⟩
  ·by_cases hs:kl.sameKey (qA4 x)=true
   ·exact Or.inr ⟨x,by simp,WideAt.sameKey_eq hs⟩
   ·exact Or.inl (by simp[h1,hs])
  ·exact Or.inr ⟨y,by simp[hy],e⟩
def KeysU(D:DataW Unit)(ks:List Int):Prop:=(∀ x∈ks,Maps.has D (qA4 x)=true∧keyOf prog 75 (.int .u64 x)=some (qA4 x))∧(∀ kl,Maps.has D kl=true→∃ x∈ks,kl=qA4 x)∧ks.length≤Maps.size D
theorem jF7(n:Nat)(hn:1≤n)(l Bm M V nn:Nat)(D:DataW Unit)(J:List Int→World→Prop)
  (hY:∀ pre x W,J pre W→pre.length<Maps.size D→YieldAt Fence.wide (n-1) prog l #[.int .u64 x] W fun e W'=>e=.returned (.bool true)∧J (pre++[x]) W'∧KeepsWalks W W')
  (W:World) (hJ:AbidesFrom W.heap.size J) (hm:W.cell? ⟨Bm,0,none⟩=some (.map (some M))) (hown:RM W V M nn D) (h0:J [] W):
  CallsIn Fence.wide n prog 148 #[.func (.yield l) #[] #[],.pointer (some ⟨Bm,0,none⟩)] W fun e W'=>(∃ v,e=.returned v)∧∃ ks:List Int,KeysU D ks∧J ks W':=by
 refine callsIn_of_wp func148 rfl trivial ?_ rfl;simp only[ntmps148,List.size_toArray,List.length_cons,List.length_nil,Nat.reduceAdd,Nat.reduceSub,Array.replicate_succ,Array.replicate_zero,List.push_toArray,List.append_toArray,List.nil_append,List.cons_append]
 gi_wp2_with (first
  | (gi_at_range;refine wpListIn_range_own _ rfl _ 124 rfl 75 83 qM9 qX7 _ M nn _ rfl hown ?_;intro w0 hrg0 hg0 hs0)
  | gi_in)
 go_frame
 gi_loopw [3] (fun _ wr=>∃ (left:Lit→Bool) (cnt:Nat) (ks:List Int),wr.ranges prog 75 (qT6 V) M W.heap.size nn D left cnt∧ks.length+cnt≤Maps.size D∧Come D left ks∧J ks wr)
  (fun _ wr=>wr.rangeLeft M W.heap.size)
 case atStart=>
  exact⟨_,_,[],hrg0,by simp,Come.start D,hJ [] W w0 none h0 hg0 (fun r e=>by cases e)⟩
 case round=>
  obtain⟨left,cnt,ks,hrg,hcs,hC,hJs⟩:=hrel
  gi_wp2_with (first
   | (gi_at_next;refine wpListIn_next_ranges _ rfl _ rfl 75 qM9 (qT6 V) (.int .u64) (fun v:Value=>v) (fun key kl hk=>by obtain⟨x,hx,_⟩:=Maps.keyOf_int_inv underlying75 hk;exact⟨x,hx⟩) (fun v y hv=>⟨v,rfl⟩) M W.heap.size nn _ _ _ rfl hrg ?_ ?_)
   | gi_in)
  ·intro hc0 hl0
   gi_wp2
   go_end0
   exact⟨⟨_,rfl⟩,ks,⟨hC.has,fun kl hk=>(hC.all kl hk).resolve_left (by simp[hl0]),by omega⟩,hJs⟩
  ·intro x c kl yd yp w2 cnt2 hkey hlk hv hat hrg2 hlt hg2 hs2 hen;obtain⟨x',ex,rfl,_⟩:=Maps.keyOf_int_inv underlying75 hkey;cases ex;have hJ2:J ks w2:=hJ ks wr w2 (some W.heap.size) hJs hg2 (fun r e=>by cases e;exact⟨Nat.le_refl _,hrg.iter_walk⟩);obtain⟨fn,tmps,assign,body,hy,hR⟩:=hY ks x w2 hJ2 (by omega);clear hs2
   gi_wp2
   refine hR.mono ?_;rintro e W3 ⟨rfl,hJ3,hk3⟩
   gi_wp2
   have hrg3:=hrg2.of_walks hk3
   go_roundw
   case rel=>exact⟨_,cnt2,ks++[x],hrg3,by simp;omega,hC.step hlk hkey,hJ3⟩
   case measure=>rw[hrg3.left_eq,hrg.left_eq];exact hlt
end Go.Proofs.YtdohpenfkdckiabGreatDoor
namespace Go.Proofs.YtdohpenfkdckiabGreatDoor
open Go.Proofs.Tryz
open Go.RowKit
open Go.Maps (Keyed)
attribute [local go_sem] Oper.semAt_some
theorem Kp.ofGrown{a b:World}{row:Option Nat}(h:a.grownBy b row):Kp row.toList a b:=(Kp.refl _ _).grown h (fun k hk=>Or.inl (by rw[hk];simp))
theorem Kp.putO{S:List Nat}{a b:World}(h:Kp S a b){l:Nat}(hl:l∈S)(o:Obj):Kp S a (b.putObj l o):=
 ⟨h.os,h.tape,h.output,by have:=h.size;simp[World.putObj];omega,fun k hk hn=>(World.putObj_heap_other (by intro e;subst e;exact hn hl)).trans (h.block k hk hn)⟩
theorem jT6{nn:Nat}{g:Operand}{ps:Array Tmp}{assign body:Code}{Q:Exit→Act→World→Prop}{a:Act}{w:World}(gf:Nat)(lb:Array Value)(S:List Int→Prop)(N:Nat)(h1:1≤nn)
  (hg:a.eval g=.func (.func gf) #[] lb) (eg:∀ (args:Array Value) (W:World),Sem.run prog (callFunc gf args) W=.ok (.enter gf args) W) (hps:ps.size=1) (hseq:SeqGives Fence.wide (nn-1) prog gf lb (.int .u64) S N w)
  (J:List Int→World→Prop)
  (hJK:∀ s W W' T,J s W→Kp T W W'→(∀ k∈T,w.heap.size≤k∧∀ c t fr,W.heap[k]?≠some (.cells c t fr))→J s W')
  (hJ0:∀ W,Kp [] w W→J [] W)
  (a₁:Int→Act)
  (hassign:∀ (l:Nat) (x:Int) (W:World) (K:Act→World→Prop),K (a₁ x) W→assign.wpIn (Fence.wide.inRound l) (nn-1-1) prog (Exit.then K (fun _ _ _=>False)) { tmps:=(ps.zip #[.int .u64 x]).foldl (fun t (p,v)=>t.setIfInBounds p v) a.tmps,defers:=[] } W)
  (hbody:∀ (l:Nat) (pre:List Int) (x:Int) (W:World),J pre W→pre.length<N→w.heap.size+2≤W.heap.size→
   body.wpIn (Fence.wide.inRound l) (nn-1-1) prog (fun e _ W3=>match e with
    | .normal=>J (pre++[x]) W3∧W.heap.size≤W3.heap.size∧∀ (k:Nat) (o:Obj),W.heap[k]?=some o→(∀ c t fr,o≠Obj.cells c t fr)→W3.heap[k]?=some o
    | _=>False) (a₁ x) W)
  (hdone:∀ (W:World) (ss:List Int),S ss→J ss W→W.heap[w.heap.size]?=some (.deferred (some []))→Q .normal { a with defers:={ target:=.collected w.heap.size,args:=#[] }::a.defers } W):
  (Code.rangeFunc g ps assign body).wpIn Fence.wide nn prog Q a w:=by
 refine wpIn_rangeFunc ?_;intro fn hfn;obtain⟨rec,hrec⟩:∃ rec:LoopState→Option Code→Loop,rec=fun st pe=>{ state:=st,pending:=pe,fn,tmps:=a.tmps,params:=ps,assign,body,defers:=w.heap.size }:=⟨_,rfl⟩;obtain⟨W1,hW1⟩:∃ W1,(w.alloc (.deferred (some []))).alloc (.loop (rec .ready none))=W1:=⟨_,rfl⟩;have hL1:W1.heap[w.heap.size+1]?=some (.loop (rec .ready none)):=by
  rw[←hW1];have:=World.alloc_heap_new (w.alloc (.deferred (some []))) (.loop (rec .ready none));rwa [World.size_alloc] at this
 have hD1:W1.heap[w.heap.size]?=some (.deferred (some [])):=by
  rw[←hW1];exact (Below.heap_alloc _ _ _ (by simp)).trans (World.alloc_heap_new w _)
 have hK1:Kp [] w W1:=by rw[←hW1];exact ((Kp.refl _ _).alloc _).alloc _
 have hB1:Below w.heap.size w W1:=by rw[←hW1];exact ((Below.refl _ w).alloc (Nat.le_refl _) _).alloc (by simp) _
 have hs1:W1.heap.size=w.heap.size+2:=by rw[←hW1];simp
 refine⟨w.heap.size+1,[{ target:=.collected w.heap.size,args:=#[] }],W1,{ target:=.fn (.func gf) lb,args:=#[.func (.yield (w.heap.size+1)) #[] #[]] },W1,gf,
  #[.func (.yield (w.heap.size+1)) #[] #[]]++lb,W1,?_,?_,?_,?_,fun h=>(by cases h),?_⟩
 ·rw[←hW1,hrec];exact run_enterLoop_outer _ _ _ _ _
 ·simp only[resolve,hg];simp[go_sem]
 ·intro f' hf';trivial
 ·simp[invoke,go_sem,eg]
 ·refine (hseq (w.heap.size+1) (fun ss W=>J ss W∧W.heap[w.heap.size+1]?=some (.loop (rec .ready none))∧W.heap[w.heap.size]?=some (.deferred (some []))) W1 hB1 ?_ ?_ ⟨hJ0 W1 hK1,hL1,hD1⟩).mono ?_
  ·rintro ss W W' row ⟨hJ,hL,hD⟩ hgr hrow;have hr2:∀ r,row=some r→∃ o:Obj,W.heap[r]?=some o∧o.isWalk=true:=fun r e=>(hrow r e).2;refine⟨hJK ss W W' _ hJ (Kp.ofGrown hgr) (fun k hk=>?_),(grownBy_keeps hgr hr2 hL rfl).trans hL,(grownBy_keeps hgr hr2 hD rfl).trans hD⟩;obtain⟨h3,o,h4,h5⟩:=hrow k (by simpa using hk);exact⟨by omega,fun c t fr e=>by rw[h4] at e;cases e;cases h5⟩
  ·
   rintro pre x W ⟨hJ,hL,hD⟩ hpl;have hlt:w.heap.size+1<W.heap.size:=ζ hL;have hy:=run_yield (P:=prog) (args:=#[.int .u64 x]) hL (by rw[hrec];simp[hps]);rw[hrec] at hy;refine⟨fn,_,assign,body,hy,roundIn_of_wpIn hfn (hassign _ x W _ ?_)⟩;clear hy;refine⟨_,run_beginRound hL (by rw[hrec]),?_⟩;obtain⟨W3,hW3,hL3,hK3⟩:∃ W3,W3=W.putObj (w.heap.size+1) (.loop { rec .ready none with state:=.busy })∧W3.heap[w.heap.size+1]?=some (.loop { rec .ready none with state:=.busy })∧Kp [w.heap.size+1] W W3:=
    ⟨_,rfl,World.putObj_heap_same (ζ hL),(Kp.refl _ _).putO (by simp) _⟩
   have hk3:KeepsWalks W W3:=by rw[hW3];exact KeepsWalks.putObj _ hL rfl
   rw[←hW3];clear hW3;have hJ3:J pre W3:=hJK _ _ _ _ hJ hK3 (fun k hk=>by rw[List.mem_singleton.1 hk];exact⟨by omega,fun c t fr e=>by rw[hL] at e;cases e⟩);have hD3:=hK3.hp hD;refine wpIn_mono (hbody _ pre x W3 hJ3 hpl (by have:=hK3.size;omega)) ?_;rintro e a3 W4 hp
   cases e with
   | normal=>
    obtain⟨hJ4,hs4,hk4⟩:=hp;have hb1:=hk4 _ _ hL3 (fun c t fr e=>by cases e);have hb2:=hk4 _ _ hD3 (fun c t fr e=>by cases e);have hr:=run_endRound (P:=prog) none hb1;rw[hrec] at hr;refine⟨_,_,hr,rfl,?_⟩;have hKf:Kp [w.heap.size+1] W4 (W4.putObj (w.heap.size+1) (.loop (rec .ready none))):=(Kp.refl _ _).putO (by simp) _;have hfin:(J (pre++[x]) (W4.putObj (w.heap.size+1) (.loop (rec .ready none)))∧(W4.putObj (w.heap.size+1) (.loop (rec .ready none))).heap[w.heap.size+1]?=some (.loop (rec .ready none))∧(W4.putObj (w.heap.size+1) (.loop (rec .ready none))).heap[w.heap.size]?=some (.deferred (some [])))∧KeepsWalks W (W4.putObj (w.heap.size+1) (.loop (rec .ready none))):=
     ⟨⟨hJK _ _ _ _ hJ4 hKf (fun k hk=>by rw[List.mem_singleton.1 hk];exact⟨by omega,fun c t fr e=>by rw[hb1] at e;cases e⟩),World.putObj_heap_same (ζ hb1),hKf.hp hb2⟩,
      (hk3.trans ⟨hs4,fun k o hk ho=>hk4 k o hk (fun c t fr e=>by rw[e] at ho;cases ho)⟩).trans (KeepsWalks.putObj _ hb1 rfl)⟩
    rw[hrec] at hfin ⊢;exact hfin
   | ret=>exact hp.elim
   | exit i=>exact hp.elim
   | goto l=>exact hp.elim
   | panic ch=>exact hp.elim
   | outgrown=>exact hp.elim
  ·
   rintro e W2 ⟨⟨v,rfl⟩,ss,hS,hJ2,hL2,hD2⟩;have hr:=run_endLoop (P:=prog) hL2 (by rw[hrec];simp);rw[hrec] at hr;have hKf:Kp [w.heap.size+1] W2 (W2.putObj (w.heap.size+1) (.loop { rec .ready none with state:=.exhausted })):=(Kp.refl _ _).putO (by simp) _;refine⟨none,_,hr,?_⟩;have:=hdone (W2.putObj (w.heap.size+1) (.loop { rec .ready none with state:=.exhausted })) ss hS (hJK _ _ _ _ hJ2 hKf (fun k hk=>by rw[List.mem_singleton.1 hk];exact⟨by omega,fun c t fr e=>by rw[hL2] at e;cases e⟩)) (hKf.hp hD2);rw[hrec] at this;exact this
end Go.Proofs.YtdohpenfkdckiabGreatDoor
namespace Go.Proofs.YtdohpenfkdckiabGreatDoor
open Go.Proofs.Tryz
open Go.RowKit
open Go.Maps (Keyed)
attribute [local go_sem] Oper.semAt_some
theorem jB2:(prog.info? 75).map (fun i=>(i.zero,i.size,i.bytes))=some (some (.int .u64 0),1,8):=by kernel_rfl
def qL7(ks:List Int):List Value:=ks.map (.int .u64)
theorem jL5(w:World)(a:Value)(t:TypeId):∀ j u,[a][j]?=some u→(w.alloc (.cells #[a] t)).cell? ((⟨w.heap.size,0,none⟩:Addr).add j)=some u:=fun j u hj=>by
 rw[qM1,ξ (μ _ _)];simpa using hj
theorem xT0(args:Array Value)(W:World):Sem.run prog (callFunc 148 args) W=.ok (.enter 148 args) W:=by
 simp[go_sem,func148]
theorem jF8(n:Nat)(hn:1≤n)(Mx M V nn:Nat)(D:DataW Unit)(w:World)(hm:w.heap[Mx]?=some (.cells #[.map (some M)] 124))(hown:RM w V M nn D):
  SeqGives Fence.wide n prog 148 #[.pointer (some ⟨Mx,0,none⟩)] (.int .u64) (KeysU D) (Maps.size D) w:=fun l J W hW hJ hY h0=>by
 have hM':RM W V M nn D:=by
  have hbl:=hown.lt;obtain⟨es,clock,hb,Ft⟩:=hown;exact⟨es,clock,(hW.block M hbl).trans hb,Ft⟩
 have hm':W.heap[Mx]?=some (.cells #[.map (some M)] 124):=(hW.block Mx (ζ hm)).trans hm;exact jF7 n hn l Mx M V nn D J hY W hJ (by have:=ξ hm' 0;simpa using this) hM' h0
theorem zK6{w w':World}{S:List Nat}{base:Nat}{e:TypeId}{sz:Nat}{v:Value}{n:Nat}{xs:List Value}(h:w.ownsRow base e sz v n xs)(hK:Kp S w w')(hS:∀ k∈S,∀ c fr,w.heap[k]?≠some (.cells c e fr)):w'.ownsRow base e sz v n xs:=by
 refine⟨h.1,?_⟩;rcases h.2 with h1|⟨g,cap,cur,h1,h2,h3,h4⟩
 ·exact Or.inl h1
 ·exact Or.inr ⟨g,cap,cur,h1,h2,hK.heap h3 (fun hm=>hS g hm _ _ h3),h4⟩
def xL8(B:Nat)(w0:World)(ks:List Int)(W:World):Prop:=∃ v,W.heap[B]?=some (.cells #[v] 174)∧W.ownsRow (B+1) 75 1 v ks.length (qL7 ks)∧Kp [B] w0 W
theorem xP7(gf:Nat)(lb:Array Value)(eg:∀ (args:Array Value) (W:World),Sem.run prog (callFunc gf args) W=.ok (.enter gf args) W)(S:List Int→Prop)(N:Nat)(hN:N≤1000)(w:World)(hseq:∀ W,Kp [] w W→SeqGives Fence.wide 8 prog gf lb (.int .u64) S N W):
  Calls prog 179 #[.slice none 0 0,.func (.func gf) #[] lb] w fun e w'=>∃ v ks,e=.returned v∧S ks∧w'.ownsRow w.heap.size 75 1 v ks.length (qL7 ks)∧Kp [] w w':=by
 obtain⟨i0,hi0,hz0,hz1,hz2⟩:=info_parts jB2;have HSEQ:=zh hseq;clear hseq;refine (callsIn_wide (n:=9)).1 ?_;refine callsIn_of_wp_marks func179 rfl trivial ?_ rfl;simp only[ntmps179,List.size_toArray,List.length_cons,List.length_nil,Nat.reduceAdd,Nat.reduceSub,Array.replicate_succ,Array.replicate_zero,List.push_toArray,List.append_toArray,List.nil_append,List.cons_append]
 gi_wp2_with fail
 obtain⟨w0,hw0,hB0,hK0,hs0⟩:∃ w0,w0=w.alloc (.cells #[.slice none 0 0] 174)∧w0.heap[w.heap.size]?=some (.cells #[.slice none 0 0] 174)∧Kp [] w w0∧w0.heap.size=w.heap.size+1:=⟨_,rfl,μ _ _,(Kp.refl _ _).alloc _,by simp⟩;rw[←hw0];clear hw0;refine jT6 gf lb S N (by decide) rfl eg rfl (HSEQ.out w0 hK0) (xL8 w.heap.size w0) ?JK ?J0 (fun x=>{ tmps:=#[.slice none 0 0,.func (.func gf) #[] lb,.pointer (some ⟨w.heap.size,0,none⟩),undef,.slice none 0 0,.int .u64 x,.func (.func gf) #[] lb,.int .u64 x,undef,undef,undef,undef,undef],defers:=[] }) ?assign ?body ?done
 case JK=>
  rintro s W W' T ⟨v,h1,h2,h3⟩ hK hT;exact⟨v,hK.heap h1 (fun hm=>(hT _ hm).2 _ _ _ h1),zK6 h2 hK (fun k hk c fr=>(hT k hk).2 c _ fr),h3.trans hK (fun i hi hlt=>absurd (hT i hi).1 (by omega))⟩
 case J0=>
  intro W hK;exact⟨_,hK.hp hB0,World.ownsRow_nil _ _ _ _,hK.mono (by simp)⟩
 case assign=>
  intro l x W K hK
  gi_wp2
  exact hK
 case body=>
  rintro l pre x W ⟨v,hB,hO,hKp⟩ hlen hsz;obtain⟨ob,oc,rfl⟩:=qL0 hO;have hBs:=ζ hB;have o0:=ξ hB 0;simp only[zG,zH,zI] at o0;have fo0:=ρ hB 0;have HOO:Hid (W.heap[w.heap.size]?=some (.cells #[.slice ob pre.length oc] 174)∧W.ownsRow (w.heap.size+1) 75 1 (.slice ob pre.length oc) pre.length (qL7 pre)∧Kp [w.heap.size] w0 W):=⟨hB,hO,hKp⟩;have HNO:Hid ((Value.slice ob pre.length oc).ownBlock≠some w.heap.size):=fun e=>by
   have:=qI3 hO _ e;omega
  have hgrow:∀ {X:Obj} {w5:World},(W.alloc X).grownBy w5 (Value.slice ob pre.length oc).ownBlock→w5.heap[w.heap.size]?=some (.cells #[.slice ob pre.length oc] 174):=fun {X w5} hg=>(hg.block _ (by simp;omega) (fun e=>HNO.out e.symm)).trans (θ _ HOO.out.1);clear hB hO hKp
  gi_wp2_with (gi_at_builtin;refine wpListIn_append_own _ rfl _ _ 174 rfl (w.heap.size+1) 75 i0 (.int .u64 0) 1 8 underlying174 hi0 hz0 hz1 hz2 rfl (by decide) _ _ _ rfl (World.ownsRow.alloc HOO.out.2.1 _) ⟨W.heap.size,0,none⟩ 1 1 [.int .u64 x] rfl rfl (jL5 _ _ _) (by simp[Value.oneCell']) (by unfold maxLen;omega) (by omega) (by simp;omega) ?_;intro v5 w5 hO5 hg5 _;obtain⟨g5,c5,rfl⟩:=qJ2 hO5;have hB5:=hgrow hg5;have o5:=ξ hB5 0;have fo5:=ρ hB5 0;simp only[zG,zH] at o5)
  have hs5:=hg5.size;have hsW:(W.alloc (.cells #[.int .u64 x] 75)).heap.size=W.heap.size+1:=by simp
  have hKs:Kp [w.heap.size] w5 (w5.setCell ⟨w.heap.size,0,none⟩ (.slice (some ⟨g5,0,none⟩) (pre.length+1) c5)):=(Kp.refl _ _).sc _;have hown:∀ k,(Value.slice ob pre.length oc).ownBlock=some k→w.heap.size+1≤k:=fun k hk=>qI3 HOO.out.2.1 k hk;refine⟨⟨_,ω hB5 0 _,?_,?_⟩,?_,?_⟩
  ·have e:qL7 (pre++[x])=qL7 pre++[.int .u64 x]:=by simp[qL7]
   rw[e,List.length_append];exact zK6 hO5 hKs (fun k hk c fr e=>by rw[List.mem_singleton.1 hk,hB5] at e;cases e)
  ·exact (((HOO.out.2.2.alloc _).grown hg5 (fun k hk=>Or.inr (by have:=hown k hk;omega))).tr hKs)
  ·have:=hKs.size;omega
  ·intro k o hk hno;have hlt:=ζ hk;have hne:k≠w.heap.size:=fun e=>by
    rw[e,HOO.out.1] at hk;cases hk;exact hno _ _ _ _ rfl
   refine hKs.heap ((hg5.block k (by simp;omega) (fun e=>?_)).trans (θ _ hk)) (by simpa using hne);rcases HOO.out.2.1.2 with⟨h0,_⟩|⟨gb,cap,cur,e1,e2,e3,_⟩
   ·rw[h0] at e;cases e
   ·rw[e1] at e;cases e;rw[e3] at hk;cases hk;exact hno _ _ _ _ rfl
 case done=>
  rintro W ss hS ⟨v,hB,hO,hKp⟩ hD;obtain⟨ob,oc,rfl⟩:=qL0 hO;have hBs:=ζ hB;have o0:=ξ hB 0;simp only[zG,zH,zI] at o0;obtain⟨sl,hsl⟩:∃ sl,sl=ss.length:=⟨_,rfl⟩;rw[←hsl] at o0;have HOO:Hid (W.ownsRow (w.heap.size+1) 75 1 (.slice ob sl oc) ss.length (qL7 ss)∧Kp [w.heap.size] w0 W∧W.heap[w0.heap.size]?=some (.deferred (some []))):=⟨by rw[hsl];exact hO,hKp,hD⟩;clear hB hO hKp hD hsl
  gi_wp2
  obtain⟨hO,hKp,hD⟩:=HOO.out;refine⟨by simp,.inl ⟨_,_,rfl,run_takeDeferred hD,?_⟩⟩;have hKf:Kp [w0.heap.size] W (W.putObj w0.heap.size (.deferred none)):=(Kp.refl _ _).putO (by simp) _;exact⟨_,results_tmp rfl _ _ _,_,ss,rfl,hS,qI7 (zK6 hO hKf (fun k hk c fr e=>by rw[List.mem_singleton.1 hk,hD] at e;cases e)) (by omega),hK0.trans (hKp.tr hKf) (fun i hi hlt=>by simp at hi;omega)⟩
theorem jF9(M:Nat)(w:World):Calls prog 105 #[.map (some M)] w fun e w'=>e=.returned (.func (.func 148) #[] #[.pointer (some ⟨w.heap.size,0,none⟩)])∧w'=w.alloc (.cells #[.map (some M)] 124):=by
 have hmf:=zM;go_enter func105,ntmps105;go_wp2;go_ret;exact⟨rfl,rfl⟩
theorem xT2(Mx M V nn:Nat)(D:DataW Unit)(h4:Maps.size D≤4)(w:World)(hm:w.heap[Mx]?=some (.cells #[.map (some M)] 124))(hown:RM w V M nn D):
  Calls prog 146 #[.func (.func 148) #[] #[.pointer (some ⟨Mx,0,none⟩)]] w fun e w'=>∃ v ks,e=.returned v∧KeysU D ks∧w'.ownsRow w.heap.size 75 1 v ks.length (qL7 ks)∧Kp [] w w':=by
 have HC:Hid (Calls prog 179 #[.slice none 0 0,.func (.func 148) #[] #[.pointer (some ⟨Mx,0,none⟩)]] w fun e w'=>∃ v ks,e=.returned v∧KeysU D ks∧w'.ownsRow w.heap.size 75 1 v ks.length (qL7 ks)∧Kp [] w w'):=
  xP7 _ _ xT0 (KeysU D) (Maps.size D) (by omega) w (fun W hK=>jF8 8 (by decide) Mx M V nn D W (hK.hp hm) (hown.kp hK (by simp)))
 clear hm hown;go_enter func146,ntmps146;go_wp2_with fail;refine (show Calls _ _ _ _ _ from HC.out).mono ?_;rintro e w1 ⟨v,ks,rfl,h1,h2,h3⟩;have HE:Hid (KeysU D ks∧w1.ownsRow w.heap.size 75 1 v ks.length (qL7 ks)∧Kp [] w w1):=⟨h1,h2,h3⟩;clear h1 h2 h3;go_wp2;go_ret;exact⟨v,ks,rfl,HE.out⟩
end Go.Proofs.YtdohpenfkdckiabGreatDoor
namespace Go.Proofs.YtdohpenfkdckiabGreatDoor
open Go.Proofs.Tryz
open Go.RowKit
theorem jJ9(x:Int)(w:World):Calls prog 220 #[.int .u64 x] w fun e w'=>e=.returned (.bool false)∧w'=w:=by
 go_enter func220,ntmps220;go_wp2;go_ret;exact⟨rfl,rfl⟩
theorem jI1(x y:Int)(w:World):Calls prog 206 #[.int .u64 x,.int .u64 y] w fun e w'=>e=.returned (.bool (decide (x<y)))∧w'=w:=by
 go_enter func206,ntmps206;go_wp2_with fail;refine (jJ9 x w).mono ?_;rintro e w1 ⟨rfl,rfl⟩;go_wp2;go_ret;exact⟨rfl,rfl⟩
theorem jI0(x:Int)(h0:0≤x)(h1:x<12)(w:World):Calls prog 210 #[.int .u64 x] w fun e w'=>(∃ n,e=.returned (.int .i64 n))∧w'=w:=by
 have hc:x=0∨x=1∨x=2∨x=3∨x=4∨x=5∨x=6∨x=7∨x=8∨x=9∨x=10∨x=11:=by omega
 rcases hc with rfl|rfl|rfl|rfl|rfl|rfl|rfl|rfl|rfl|rfl|rfl|rfl <;>
 ·clear h0 h1;go_enter func210,ntmps210;go_wp2;go_ret;exact⟨⟨_,rfl⟩,rfl⟩
theorem zY1(x:Int)(h0:0≤x)(h1:x<12)(w:World):Calls prog 181 #[.int .u64 x] w fun e w'=>(∃ n,e=.returned (.int .i64 n))∧w'=w:=by
 go_enter func181,ntmps181;go_wp2_with fail;refine (jI0 x h0 h1 w).mono ?_;rintro e w1 ⟨⟨n,rfl⟩,rfl⟩;go_wp2;go_ret;exact⟨⟨_,rfl⟩,rfl⟩
def RowU(w:World)(g:Nat)(ks:List Int)(c:Nat):Prop:=∃ cur,w.heap[g]?=some (.cells cur 75)∧cur.size=c∧∀ i (h:i<ks.length),cur[i]?=some (.int .u64 ks[i])
def qP4(w:World)(g:Nat)(ks:List Int)(c:Nat)(W:World):Prop:=∃ ks',ks'.Perm ks∧RowU W g ks' c∧Kp [g] w W
theorem jC7(g cp:Nat)(ks:List Int)(w:World)(hr:RowU w g ks cp)(hn:ks.length≤cp)(h12:ks.length≤12):
  Calls prog 200 #[.slice (some ⟨g,0,none⟩) ks.length cp,.int .i64 0,.int .i64 ks.length] w fun e w'=>e=.returned (.tuple #[])∧qP4 w g ks cp w':=by
 obtain⟨ln,hln⟩:∃ ln,ln=ks.length:=⟨_,rfl⟩;rw[←hln];have HLN:=zh hln;have HR:=zh hr;rw[←hln] at hn h12;clear hln hr;go_enter func200,ntmps200;go_wp2_with fail
 go_loopw [6] (fun i wr=>∃ (j:Nat),1≤j∧j≤13∧i=.int .i64 j∧Hid (qP4 w g ks cp wr)) (fun i _=>(14-intOf i).toNat)
 case atStart=>exact⟨1,by omega,by omega,rfl,ks,List.Perm.refl _,HR.out,Kp.refl _ _⟩
 case round=>
  obtain⟨j,hj1,hj13,rfl,HSU⟩:=hrel;by_cases hlt:j<ln
  ·have hjb:(j:Int)<(ln:Int):=by omega
   go_wp2_with fail
   go_loopw [7] (fun i wr=>∃ (m:Nat),m≤j∧i=.int .i64 m∧Hid (qP4 w g ks cp wr)) (fun i _=>(intOf i).toNat)
   case atStart=>exact⟨j,Nat.le_refl _,rfl,HSU⟩
   case round=>
    obtain⟨m,hmj,rfl,HSV⟩:=hrel;by_cases hm:0<m
    ·have hd:decide ((0:Int)<(m:Int))=true:=by simp;omega
     obtain⟨ks',hp,⟨cur,hc,hsz,hcur⟩,hK⟩:=HSV.out;have hlk:=hp.length_eq;have hln:=HLN.out;have x1:=ξ hc m;rw[hcur m (by omega)] at x1;have x2:=ξ hc (m-1);rw[hcur (m-1) (by omega)] at x2;have hwr:wrap64 ((m:Int)-1)=((m-1:Nat):Int):=by simp only[wrap64];omega
     have HIN:Hid (w.heap.size≤w.heap.size∧wr.heap[g]?=some (.cells cur 75)):=⟨Nat.le_refl _,hc⟩;have f1:=ρ hc m;have f2:=ρ hc (m-1);have hgs:=ζ hc;obtain⟨A,hA⟩:∃ A,A=ks'[m]'(by omega):=⟨_,rfl⟩;obtain⟨B,hB⟩:∃ B,B=ks'[m-1]'(by omega):=⟨_,rfl⟩;rw[←hA] at x1;rw[←hB] at x2;have HAB:Hid (A=ks'[m]'(by omega)∧B=ks'[m-1]'(by omega)):=⟨hA,hB⟩;have HCU:=zh hcur;have HK:=zh hK;have HPP:=zh hp;clear hc hcur hK hA hB;go_wp2_with fail
     go_quiet (first | (go_at_call 206;refine Calls.quiet_of_same (jI1 _ _ _)))
     by_cases hAB:A<B
     ·go_wp2_with fail
      go_region
      all_goals go_wp2_with fail
      refine⟨⟨m-1,by omega,by congr 1;omega,?_⟩,by simp[intOf];omega⟩;refine⟨(ks'.set m B).set (m-1) A,?_,⟨(cur.setIfInBounds m (.int .u64 B)).setIfInBounds (m-1) (.int .u64 A),ω (ω (w:=wr.drewN (nq+1)) HIN.out.2 m (.int .u64 B)) (m-1) (.int .u64 A),by simp[hsz],?_⟩,?_⟩
      ·rw[HAB.out.1,HAB.out.2];exact (List.set_set_perm (by omega) (by omega)).trans HPP.out
      ·intro i hi;simp only[List.length_set] at hi;have h1:=HCU.out i hi;rw[Array.getElem?_setIfInBounds,Array.getElem?_setIfInBounds,List.getElem_set,List.getElem_set];by_cases e1:m-1=i
       ·subst e1;simp[hsz];omega
       ·by_cases e2:m=i
        ·subst e2;simp[hsz,e1];omega
        ·simp[e1,e2,h1]
      ·exact (((HK.out.drewN _).sc _).sc _)
     ·go_wp2_with fail;refine⟨⟨j+1,by omega,by omega,by go_num,?_⟩,by simp[intOf];omega⟩;exact⟨ks',HPP.out,⟨cur,HIN.out.2,hsz,HCU.out⟩,HK.out.drewN _⟩
    ·obtain rfl:m=0:=by omega
     have hd:decide ((0:Int)<((0:Nat):Int))=false:=by simp
     go_wp2_with fail
     go_quiet (fail)
     go_wp2_with fail;obtain⟨ks',hp,⟨cur,hc,hsz,hcur⟩,hK⟩:=HSV.out;refine⟨⟨j+1,by omega,by omega,by go_num,?_⟩,by simp[intOf];omega⟩;exact⟨ks',hp,⟨cur,hc,hsz,hcur⟩,hK.drewN _⟩
  ·have hjb:¬(j:Int)<(ln:Int):=by omega
   go_wp2
   go_end0
   exact⟨rfl,HSU.out⟩
theorem jN5(g cp:Nat)(ks:List Int)(lim:Int)(w:World)(hr:RowU w g ks cp)(hn:ks.length≤cp)(h12:ks.length≤12):
  Calls prog 180 #[.slice (some ⟨g,0,none⟩) ks.length cp,.int .i64 0,.int .i64 ks.length,.int .i64 lim] w fun e w'=>e=.returned (.tuple #[])∧qP4 w g ks cp w':=by
 obtain⟨ln,hln⟩:∃ ln,ln=ks.length:=⟨_,rfl⟩;have HC:Hid (Calls prog 200 #[.slice (some ⟨g,0,none⟩) ln cp,.int .i64 0,.int .i64 ln] w fun e w'=>e=.returned (.tuple #[])∧qP4 w g ks cp w'):=by rw[hln];exact jC7 g cp ks w hr hn h12
 rw[←hln];rw[←hln] at hn h12;clear hln hr;have hwr:wrap64 ((ln:Int)-0)=(ln:Int):=by simp only[wrap64];omega
 have hle:(ln:Int)≤12:=by omega
 go_enter func180,ntmps180;go_wp2_with fail
 go_loopw [1,2] (fun a b wr=>a=.int .i64 0∧b=.int .i64 ln∧wr=w) (fun _ _ _=>0)
 case atStart=>exact⟨rfl,rfl,rfl⟩
 case round=>
  obtain⟨rfl,rfl,rfl⟩:=hrel;go_wp2_with fail;refine (show Calls _ _ _ _ _ from HC.out).mono ?_;rintro e w1 ⟨rfl,hS⟩;have HS:=zh hS;clear hS;go_wp2;refine bodyPost_ret (results_none results180 _ _ _) rfl ?_;exact⟨rfl,HS.out⟩
theorem jP7(g cp:Nat)(ks:List Int)(w:World)(hr:RowU w g ks cp)(hn:ks.length≤cp)(h12:ks.length<12):
  Calls prog 147 #[.slice (some ⟨g,0,none⟩) ks.length cp] w fun e w'=>e=.returned (.tuple #[])∧qP4 w g ks cp w':=by
 obtain⟨ln,hln⟩:∃ ln,ln=ks.length:=⟨_,rfl⟩;have HC:Hid (∀ lim:Int,Calls prog 180 #[.slice (some ⟨g,0,none⟩) ln cp,.int .i64 0,.int .i64 ln,.int .i64 lim] w fun e w'=>e=.returned (.tuple #[])∧qP4 w g ks cp w'):=fun lim=>by rw[hln];exact jN5 g cp ks lim w hr hn (by omega)
 rw[←hln];rw[←hln] at hn h12;clear hln hr;have hcv:IntKind.u64.wrap (ln:Int)=(ln:Int):=by rw[IntKind.wrap_u64];omega
 go_enter func147,ntmps147;go_wp2_with fail;refine (zY1 (ln:Int) (by omega) (by omega) w).mono ?_;rintro e w1 ⟨⟨n,rfl⟩,rfl⟩;go_wp2_with fail;refine (show Calls _ _ _ _ _ from HC.out n).mono ?_;rintro e w2 ⟨rfl,hS⟩;have HS:=zh hS;clear hS;go_wp2
 go_end0
 exact⟨rfl,HS.out⟩
theorem jP6(w:World):Calls prog 147 #[.slice none 0 0] w fun e w'=>e=.returned (.tuple #[])∧w'=w:=by
 have hI:Hid (Calls prog 200 #[.slice none 0 0,.int .i64 0,.int .i64 0] w fun e w'=>e=.returned (.tuple #[])∧w'=w):=by
  show Calls _ _ _ _ _;go_enter func200,ntmps200;go_wp2_with fail
  go_loopw [6] (fun i wr=>i=.int .i64 1∧wr=w) (fun i _=>0)
  case atStart=>exact⟨rfl,rfl⟩
  case round=>
   obtain⟨rfl,rfl⟩:=hrel;go_wp2
   go_end0
   exact⟨rfl,rfl⟩
 have hP:Hid (∀ lim:Int,Calls prog 180 #[.slice none 0 0,.int .i64 0,.int .i64 0,.int .i64 lim] w fun e w'=>e=.returned (.tuple #[])∧w'=w):=by
  intro lim;go_enter func180,ntmps180;go_wp2_with fail
  go_loopw [1,2] (fun a b wr=>a=.int .i64 0∧b=.int .i64 0∧wr=w) (fun _ _ _=>0)
  case atStart=>exact⟨rfl,rfl,rfl⟩
  case round=>
   obtain⟨rfl,rfl,rfl⟩:=hrel;go_wp2_with fail;refine (show Calls _ _ _ _ _ from hI.out).mono ?_;rintro e w1 ⟨rfl,rfl⟩;go_wp2;refine bodyPost_ret (results_none results180 _ _ _) rfl ?_;exact⟨rfl,rfl⟩
 clear hI;go_enter func147,ntmps147;go_wp2_with fail;refine (zY1 0 (by omega) (by omega) w).mono ?_;rintro e w1 ⟨⟨n,rfl⟩,rfl⟩;go_wp2_with fail;refine (show Calls _ _ _ _ _ from hP.out n).mono ?_;rintro e w2 ⟨rfl,rfl⟩;go_wp2
 go_end0
 exact⟨rfl,rfl⟩
end Go.Proofs.YtdohpenfkdckiabGreatDoor
namespace Go.Proofs.YtdohpenfkdckiabGreatDoor
open Go.Proofs.Tryz
open Go.RowKit
open Go.Maps (Keyed)
theorem zI0:(prog.info? 83).map (fun i=>(i.zero,i.size,i.bytes))=some (some (.agg #[.pointer none,.string ⟨#[]⟩,.int .i64 0,.int .u64 0,.pointer none]),5,48):=by kernel_rfl
theorem jR6{V:Nat}{v:Value}{y:DataW Unit × List MemPlace}(h:qT6 V v=some y):∃ hl:HL,hl.p=none∧v=φ V hl∧y.1=qF1 hl:=by
 unfold qT6 at h;split at h
 ·rename_i c;split at h
  ·rename_i a k x z hc;split at h
   ·rename_i he;cases h;refine⟨⟨k,x,z,none⟩,rfl,?_,rfl⟩;have hc':c=#[.pointer (some a),.string k,.int .i64 x,.int .u64 z,.pointer none]:=by rw[←Array.toArray_toList (xs:=c),hc]
    have ha:a=⟨V,0,none⟩:=by cases a;simp at he ⊢;exact he
    rw[hc',ha];rfl
   ·cases h
  ·cases h
 ·cases h
theorem RM.look{w:World}{V M n:Nat}{D:DataW Unit}(h:RM w V M n D){x:Int}(hh:Maps.has D (qA4 x)=true)(hk:keyOf prog 75 (.int .u64 x)=some (qA4 x)):
  ∃ hl:HL,hl.p=none∧(Instr.lookup 124 (.map (some M)) (.int .u64 x) false).run prog w=.ok (φ V hl) w∧∀ zd,D.atKey (qA4 x) zd=qF1 hl:=by
 obtain⟨es,clock,hb,F,hs,rfl⟩:=h;rcases Maps.fit_look false qM9 qX7 (z:=.agg #[.pointer none,.string ⟨#[]⟩,.int .i64 0,.int .u64 0,.pointer none]) (w:=w) (by kernel_rfl) hb F hk with⟨_,hno,_⟩|⟨e0,y,_,_,hrun,hRv,hat,_⟩
 ·obtain⟨p,hp,hpk⟩:=List.any_eq_true.1 hh;obtain⟨e0,he,rfl⟩:=List.mem_map.1 (Go.mem_sorted.1 hp);obtain⟨y,hy⟩:=F.reads e0 he;have m1:=WideElems.rd_key hy;have e1:=WideAt.sameKey_eq hpk;rw[WideElems.rg_of hy] at e1;rw[e1] at m1;exact absurd (qM9.inj m1 hk) (hno e0 he)
 ·obtain⟨hl,h1,h2,h3⟩:=jR6 hRv;exact⟨hl,h1,by rw[hrun,h2];rfl,fun zd=>by rw[hat zd,h3]⟩
theorem RowU.of{w:World}{base g cap:Nat}{cur:Array Value}{ks:List Int}(h3:w.heap[g]?=some (.cells cur 75))(hs:cur.size=cap*1)(ht:cur.toList.take (ks.length*1)=qL7 ks):RowU w g ks cap:=by
 refine⟨cur,h3,by omega,fun i hi=>?_⟩;have h1:(qL7 ks)[i]?=some (.int .u64 ks[i]):=by simp[qL7,hi]
 rw[←ht,List.getElem?_take_of_lt (by omega),Array.getElem?_toList] at h1;exact h1
def xM0(B:Nat)(D:DataW Unit)(v:Value)(ks:List Int)(w:World):Prop:=KeysU D ks∧((v=.slice none 0 0∧ks=[])∨∃ g cap,v=.slice (some ⟨g,0,none⟩) ks.length cap∧B≤g∧ks.length≤cap∧RowU w g ks cap)
theorem KeysU.perm{D:DataW Unit}{ks ks':List Int}(h:KeysU D ks)(hp:ks'.Perm ks):KeysU D ks':=
 ⟨fun x hx=>h.1 x (hp.mem_iff.1 hx),fun kl hk=>by obtain⟨x,hx,e⟩:=h.2.1 kl hk;exact⟨x,hp.mem_iff.2 hx,e⟩,by rw[hp.length_eq];exact h.2.2⟩
theorem jP8(Mx M V nn:Nat)(D:DataW Unit)(h4:Maps.size D≤4)(w:World)(hm:w.heap[Mx]?=some (.cells #[.map (some M)] 124))(hown:RM w V M nn D):
  Calls prog 104 #[.func (.func 148) #[] #[.pointer (some ⟨Mx,0,none⟩)]] w fun e w'=>∃ v ks,e=.returned v∧xM0 w.heap.size D v ks w'∧Kp [] w w':=by
 have HC:Hid (Calls prog 146 #[.func (.func 148) #[] #[.pointer (some ⟨Mx,0,none⟩)]] w fun e w'=>∃ v ks,e=.returned v∧KeysU D ks∧w'.ownsRow w.heap.size 75 1 v ks.length (qL7 ks)∧Kp [] w w'):=xT2 Mx M V nn D h4 w hm hown;clear hm hown;go_enter func104,ntmps104;go_wp2_with fail;refine (show Calls _ _ _ _ _ from HC.out).mono ?_;rintro e w1 ⟨v,ks,rfl,h1,h2,h3⟩;have HK:Hid (KeysU D ks∧Kp [] w w1):=⟨h1,h3⟩;rcases h2.2 with⟨rfl,h0⟩|⟨g,cap,cur,rfl,hbase,hgb,hr1,hr2,hr3,hr4⟩
 ·have hks:ks=[]:=List.eq_nil_of_length_eq_zero h0;clear h1 h2 h3 h0;go_wp2_with fail;refine (jP6 w1).mono ?_;rintro e w2 ⟨rfl,rfl⟩;go_wp2;go_ret;exact⟨_,ks,rfl,⟨HK.out.1,.inl ⟨rfl,hks⟩⟩,HK.out.2⟩
 ·have HS:Hid (Calls prog 147 #[.slice (some ⟨g,0,none⟩) ks.length cap] w1 fun e w'=>e=.returned (.tuple #[])∧qP4 w1 g ks cap w'):=jP7 g cap ks w1 (RowU.of (base:=0) hgb hr3 hr4) hr1 (by have:=h1.2.2;omega);obtain⟨ln,hln⟩:∃ ln,ln=ks.length:=⟨_,rfl⟩;rw[←hln] at HS ⊢;have HLN:Hid (ln=ks.length∧ks.length≤cap):=⟨hln,hr1⟩;clear h1 h2 h3 hgb hr1 hr2 hr3 hr4 hln HC;go_wp2_with fail;refine (show Calls _ _ _ _ _ from HS.out).mono ?_;rintro e w2 ⟨rfl,ks',hp,hR,hK2⟩;have HE:Hid (ks'.Perm ks∧RowU w2 g ks' cap∧Kp [g] w1 w2):=⟨hp,hR,hK2⟩;clear hp hR hK2;go_wp2;go_ret;obtain⟨hp,hR,hK2⟩:=HE.out;exact⟨.slice (some ⟨g,0,none⟩) ln cap,ks',rfl,⟨HK.out.1.perm hp,.inr ⟨g,cap,by rw[hp.length_eq,←HLN.out.1],hbase,by rw[hp.length_eq];exact HLN.out.2,hR⟩⟩,HK.out.2.trans hK2 (by simp;omega)⟩
structure ReadH(D:DataW Unit)(hs:List HL):Prop where
 len:hs.length≤Maps.size D
 are:∀ h∈hs,h.p=none∧∃ x,Maps.has D (qA4 x)=true∧∀ zd,D.atKey (qA4 x) zd=qF1 h
 all:∀ kl,Maps.has D kl=true→∃ h∈hs,h.p=none∧∀ zd,D.atKey kl zd=qF1 h
theorem zM1(V:Nat)(hs:List HL)(h:HL):qK0 V (hs++[h])=qK0 V hs++tcs V h:=by simp[qK0]
theorem jQ2(St nn:Nat)(lk:Int)(s:Sto)(D:DataW Unit)(w:World)(hSt:w.heap[St]?=some (τ lk s))(hM:RM w s.V s.M nn D)(h4:Maps.size D≤4):
  Calls prog 67 #[.pointer (some ⟨St,0,none⟩)] w fun e w'=>∃ v hs,e=.returned v∧w'.ownsRow w.heap.size 83 5 v hs.length (qK0 s.V hs)∧ReadH D hs∧Kp [] w w':=by
 obtain⟨i0,hi0,hz0,hz1,hz2⟩:=info_parts zI0;have hSs:=ζ hSt;have s10:=ξ hSt 10;simp only[τ,zG,zH,zI] at s10;have HS:=zh hSt;have HM:=zh hM;clear hSt hM;go_enter func67,ntmps67;go_wp2_with fail;refine (jF9 s.M w).mono ?_;rintro e w1 ⟨rfl,hw1⟩;have hB1:w1.heap[w.heap.size]?=some (.cells #[.map (some s.M)] 124):=by rw[hw1];exact μ _ _
 have hK1:Kp [] w w1:=by rw[hw1];exact (Kp.refl _ _).alloc _
 clear hw1;go_wp2_with fail;refine (jP8 w.heap.size s.M s.V nn D h4 w1 hB1 (HM.out.kp hK1 (by simp))).mono ?_;rintro e w2 ⟨v,ks,rfl,⟨hku,hv⟩,hK2⟩;have HK2:Hid (Kp [] w w2):=hK1.tr hK2;have hs2:=HK2.out.size;have HKU:=zh hku;obtain⟨bs,cp,hvf⟩:∃ bs cp,v=.slice bs ks.length cp:=by
  rcases hv with⟨h1,h2⟩|⟨g,cap,h1,_⟩
  ·exact⟨none,0,by rw[h1,h2];rfl⟩
  ·exact⟨_,cap,h1⟩
 subst hvf;obtain⟨ln,hln⟩:∃ ln,ln=ks.length:=⟨_,rfl⟩;have HV:Hid (ln=ks.length∧((Value.slice bs ln cp=.slice none 0 0∧ks=[])∨∃ g cap,Value.slice bs ln cp=.slice (some ⟨g,0,none⟩) ln cap∧w1.heap.size≤g∧ks.length≤cap∧RowU w2 g ks cap)):=⟨hln,by rw[hln];exact hv⟩;rw[←hln];have hl4:ln≤4:=by have:=hku.2.2;omega
 clear hln hv hku hB1 hK1 hK2;go_wp2_with fail
 go_loopw [3,13] (fun lv i wr=>∃ (j:Nat) (hs:List HL),j≤ln∧i=.int .i64 j∧hs.length=j∧Hid (wr.ownsRow w2.heap.size 83 5 lv j (qK0 s.V hs))∧Hid (∀ q (h1:q<hs.length) (h2:q<ks.length),hs[q].p=none∧∀ zd,D.atKey (qA4 ks[q]) zd=qF1 hs[q])∧Hid (Kp [] w2 wr)) (fun _ i _=>ln-(intOf i).toNat)
 case atStart=>exact⟨0,[],Nat.zero_le _,rfl,rfl,World.ownsRow_nil _ _ _ _,fun q h1=>by simp at h1,Kp.refl _ _⟩
 case round=>
  obtain⟨j,hs,hjl,rfl,hhs,HO,HA,HK⟩:=hrel;by_cases hlt:j<ln
  ·have hjb:(j:Int)<(ln:Int):=by omega
   have hjk:j<ks.length:=by have:=HV.out.1;omega
   obtain⟨g,cap,hve,hgb,hcap,⟨cur,hc,hsz,hcur⟩⟩:∃ g cap,Value.slice bs ln cp=.slice (some ⟨g,0,none⟩) ln cap∧w1.heap.size≤g∧ks.length≤cap∧RowU w2 g ks cap:=by
    rcases HV.out.2 with⟨_,h2⟩|h
    ·rw[h2] at hjk;simp at hjk
    ·exact h
   cases hve;have x1:=ξ (HK.out.hp hc) j;rw[hcur j hjk] at x1;have hgs:=ζ (HK.out.hp hc);have hKw:Kp [] w wr:=HK2.out.tr HK.out;have hSr:=hKw.hp HS.out;have hSrs:=ζ hSr;have y10:=ξ hSr 10;simp only[τ,zG,zH,zI] at y10;obtain⟨hl,hp,hrun,hat⟩:=(HM.out.kp hKw (by simp)).look (HKU.out.1 _ (List.getElem_mem hjk)).1 (HKU.out.1 _ (List.getElem_mem hjk)).2;have hptr:hl.ptr=none:=by simp[HL.ptr,hp]
   rw[φ,hptr] at hrun;have HAT:Hid (hl.p=none∧∀ zd,D.atKey (qA4 ks[j]) zd=qF1 hl):=⟨hp,hat⟩;have HKW:=zh hKw;obtain⟨kj,hkj⟩:∃ kj,kj=ks[j]:=⟨_,rfl⟩;rw[←hkj] at x1 hrun;clear hc hcur hSr hat hp hKw hkj;clear hSs s10
   go_wp2_with (at_builtin;refine wpList_append_own _ rfl _ _ 112 rfl w2.heap.size 83 i0 (.agg #[.pointer none,.string ⟨#[]⟩,.int .i64 0,.int .u64 0,.pointer none]) 5 48 underlying112 hi0 hz0 hz1 hz2 rfl (by decide) _ _ _ rfl (HO.out.alloc _) ⟨wr.heap.size,0,none⟩ 1 1 [.pointer (some ⟨s.V,0,none⟩),.string hl.key,.int .i64 hl.b,.int .u64 hl.s,.pointer none] rfl rfl ?_ (by simp[Value.oneCell']) (by unfold maxLen;omega) (by omega) (by have:=HK.out.size;simp;omega) ?_)
   ·intro q u hu;rw[qM1,ξ (μ _ _)];simpa using hu
   ·intro v1 w3 hown1 hgr1 _;have HO1:Hid (w3.ownsRow w2.heap.size 83 5 v1 (j+1) (qK0 s.V (hs++[hl]))):=by
     show World.ownsRow _ _ _ _ _ _ _;rw[zM1,tcs,hptr];exact hown1
    have HK1:Hid (Kp [] w2 w3):=(HK.out.alloc _).grown hgr1 (fun q hq=>Or.inr (by have:=qI3 HO.out q hq;omega));clear hown1 hgr1;go_wp2;refine⟨⟨j+1,hs++[hl],by omega,by go_num,by simp[hhs],HO1,fun q h1 h2=>?_,HK1⟩,by simp[intOf];omega⟩;by_cases hq:q<hs.length
    ·rw[List.getElem_append_left hq];exact HA.out q hq h2
    ·have e:q=j:=by simp at h1;omega
     subst e;rw[List.getElem_append_right (by omega)];simpa [hhs] using HAT.out
  ·have hjb:¬(j:Int)<(ln:Int):=by omega
   have hjn:j=ks.length:=by have:=HV.out.1;omega
   subst hjn;go_wp2;go_ret;refine⟨_,rfl,hs,by rw[hhs];exact qI7 HO.out hs2,⟨by rw[hhs];exact HKU.out.2.2,fun h hm=>?_,fun kl hk=>?_⟩,HK2.out.tr HK.out⟩
   ·obtain⟨q,hq,rfl⟩:=List.getElem_of_mem hm;have h1:=HA.out q hq (by omega);exact⟨h1.1,ks[q]'(by omega),(HKU.out.1 _ (List.getElem_mem (by omega))).1,h1.2⟩
   ·obtain⟨x,hx,rfl⟩:=HKU.out.2.1 kl hk;obtain⟨q,hq,rfl⟩:=List.getElem_of_mem hx;have h1:=HA.out q (by omega) hq;exact⟨hs[q]'(by omega),List.getElem_mem (by omega),h1.1,h1.2⟩
end Go.Proofs.YtdohpenfkdckiabGreatDoor
