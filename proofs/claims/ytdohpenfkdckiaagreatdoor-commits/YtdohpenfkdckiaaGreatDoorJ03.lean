import Derived.Test.YtdohpenfkdckiaaGreatDoorJ02
set_option linter.all false
set_option maxRecDepth 100000
set_option maxHeartbeats 20000000
namespace Go.Proofs.YtdohpenfkdckiaaGreatDoor
open Go.Proofs.Tryz
open Go.RowKit
variable {κ:Nat}
def qH8(l:List UInt8):List Int:=l.map (fun b=>(b.toNat:Int))
def toB(xs:List Int):List UInt8:=xs.map (fun x=>UInt8.ofNat x.toNat)
theorem zK3(l):(qH8 l).length=l.length:=by simp[qH8]
theorem xX7(l):∀ x∈qH8 l,0<=x/\x<256:=by
 intro x a;simp[qH8] at a;obtain⟨b,_,rfl⟩:=a;have:=b.toNat_lt;omega
theorem qU9(xs:List Int)(h:∀ x∈xs,0<=x/\x<256):qH8 (toB xs)=xs:=by
 simp only[qH8,toB,List.map_map]
 conv=>rhs;rw[<-List.map_id xs]
 apply List.map_congr_left;intro x a;have:=h x a;simp[UInt8.toNat_ofNat'];omega
theorem jK2(l):qD2 l=u8s (qH8 l):=by simp[qD2,u8s,qH8]
theorem zI6(xs:List Int)(h:∀ x∈xs,0<=x/\x<256):u8s xs=qD2 (toB xs):=by rw[jK2,qU9 xs h]
theorem kM3(N rb rs:Int):∀ x∈qJ0 N rb rs,0<=x/\x<256:=by
 intro x a;simp only[qJ0,qO1,List.mem_append] at a;rcases a with (((a|a)|a)|a)|a
 .simp[qK8] at a;omega
 .exact qM6 _ _ x a
 .exact qM6 _ _ x a
 .exact qM6 _ _ x a
 .exact qM6 _ _ x a
theorem xK9{w:World}{base:Nat}{v:Value}{N rb rs:Int}(h:w.ownsRow base 5 1 v 32 (u8s (qJ0 N rb rs))):∃ g cap cur,v=.slice (some ⟨g,0,none⟩) 32 cap/\w.heap[g]?=some (.cells cur 5)/\32<=cur.size/\qA9 cur 0 32=enc (toB (qJ0 N rb rs)):=by
 obtain⟨_,c⟩:=h;rcases c with⟨_,b⟩|⟨g,cap,cur,rfl,_,d,e,_,f,a⟩
 .cases b
 .refine⟨g,cap,cur,rfl,d,oM,?_⟩;rw[zI6 _ (kM3 N rb rs)] at a;simp[qA9,enc,<-a]
theorem kD6(G a n cap:Nat)(bl)(t)(w)(b:w.heap[G]?=some (.cells (enc bl) t))(i:a+n<=bl.length)(c:n<=1000000):
  Calls prog 248 #[.slice (some ⟨G,a,none⟩) n cap] w λe h=>e=.returned (.int .u64 (qI1 (qH8 ((bl.drop a).take n))))/\h=w:=by
 have g:((bl.drop a).take n).length=n:=sO
 refine qW3 G a n cap _ w (by rw[zK3,g]) c (λj d=>?_);rw[ξ b,<-qW5 (cs:=enc bl) d,qO7];have f:j<((bl.drop a).take n).length:=oM
 generalize (bl.drop a).take n=s at *;simp[enc,qD2,qH8,List.getD_eq_getElem?_getD,gQ f]
theorem qU6{P:Program}{a:Func}{p u:Tmp}{ty}(h:a.results=#[.cell p ty,.tmp u])(tmps)(w)(g:Nat)(t)(cs)(fr)(d:TypeDesc)
  (f:tmps.getD p undef=.pointer (some ⟨g,0,none⟩)) (c:w.heap[g]?=some (.cells cs t fr))
  (i:P.underlying ty=some d) (b:(match d with | .struct _ | .array _ _=>true | _=>false)=true) (e:(P.info? ty).map (·.size)=some cs.size):
  (results a tmps).run P w=.ok (.tuple #[.agg cs,tmps.getD u undef]) w:=by
 rw[results_cell_tmp h,f];simp[asAddr,run_loadVar_row w g t ty cs fr d c i b e]
end Go.Proofs.YtdohpenfkdckiaaGreatDoor
