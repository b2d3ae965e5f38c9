import Derived.Test.YtdohpenfkdckiaaGreatDoorJ02
set_option linter.all false
set_option maxRecDepth 100000
set_option maxHeartbeats 20000000
namespace Go.Proofs.YtdohpenfkdckiaaGreatDoor
open Go.Proofs.Tryz
open Go.RowKit
variable {κ:Nat}
def qE3(l:List UInt8):List Int:=l.map (fun b=>(b.toNat:Int))
def toB(xs:List Int):List UInt8:=xs.map (fun x=>UInt8.ofNat x.toNat)
theorem qV4(l):(qE3 l).length=l.length:=by simp[qE3]
theorem zD7(l):∀ x∈qE3 l,0<=x/\x<256:=by
 intro x a;simp[qE3] at a;obtain⟨b,_,rfl⟩:=a;have:=b.toNat_lt;omega
theorem qM8(xs:List Int)(h:∀ x∈xs,0<=x/\x<256):qE3 (toB xs)=xs:=by
 simp only[qE3,toB,List.map_map]
 conv=>rhs;rw[<-List.map_id xs]
 apply List.map_congr_left;intro x a;have:=h x a;simp[UInt8.toNat_ofNat'];omega
theorem jG4(l):qC0 l=u8s (qE3 l):=by simp[qC0,u8s,qE3]
theorem qX5(xs:List Int)(h:∀ x∈xs,0<=x/\x<256):u8s xs=qC0 (toB xs):=by rw[jG4,qM8 xs h]
theorem xQ2(N b rs:Int):∀ x∈qG9 N b rs,0<=x/\x<256:=by
 intro x a;simp only[qG9,qJ2,List.mem_append] at a;rcases a with (((a|a)|a)|a)|a
 .simp[qJ6] at a;omega
 .exact qK9 _ _ x a
 .exact qK9 _ _ x a
 .exact qK9 _ _ x a
 .exact qK9 _ _ x a
theorem xM9{w:World}{base:Nat}{v:Value}{N a rs:Int}(h:w.ownsRow base 5 1 v 32 (u8s (qG9 N a rs))):∃ g cap cur,v=.slice (some ⟨g,0,none⟩) 32 cap/\w.heap[g]?=some (.cells cur 5)/\32<=cur.size/\qB0 cur 0 32=enc (toB (qG9 N a rs)):=by
 obtain⟨_,d⟩:=h;rcases d with⟨_,c⟩|⟨g,cap,cur,rfl,_,e,f,_,i,b⟩
 .cases c
 .refine⟨g,cap,cur,rfl,e,oM,?_⟩;rw[qX5 _ (xQ2 N a rs)] at b;simp[qB0,enc,<-b]
theorem jW3(G a n cap:Nat)(bl)(t)(w)(b:w.heap[G]?=some (.cells (enc bl) t))(i:a+n<=bl.length)(c:n<=1000000):
  Calls prog 248 #[.slice (some ⟨G,a,none⟩) n cap] w λe h=>e=.returned (.int .u64 (qG6 (qE3 ((bl.drop a).take n))))/\h=w:=by
 have g:((bl.drop a).take n).length=n:=sO
 refine qW7 G a n cap _ w (by rw[qV4,g]) c (λj d=>?_);rw[ξ b,<-qW8 (cs:=enc bl) d,qP2];have f:j<((bl.drop a).take n).length:=oM
 generalize (bl.drop a).take n=s at *;simp[enc,qC0,qE3,List.getD_eq_getElem?_getD,gQ f]
theorem qU8{P:Program}{a:Func}{p u:Tmp}{ty}(h:a.results=#[.cell p ty,.tmp u])(tmps)(w)(g:Nat)(t)(cs)(fr)(d:TypeDesc)
  (f:tmps.getD p undef=.pointer (some ⟨g,0,none⟩)) (c:w.heap[g]?=some (.cells cs t fr))
  (i:P.underlying ty=some d) (b:(match d with | .struct _ | .array _ _=>true | _=>false)=true) (e:(P.info? ty).map (·.size)=some cs.size):
  (results a tmps).run P w=.ok (.tuple #[.agg cs,tmps.getD u undef]) w:=by
 rw[results_cell_tmp h,f];simp[asAddr,run_loadVar_row w g t ty cs fr d c i b e]
end Go.Proofs.YtdohpenfkdckiaaGreatDoor
