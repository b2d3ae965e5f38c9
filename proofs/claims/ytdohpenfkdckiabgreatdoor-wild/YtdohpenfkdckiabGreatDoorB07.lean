import Derived.Test.YtdohpenfkdckiabGreatDoorB05
set_option linter.all false
set_option maxRecDepth 100000
set_option maxHeartbeats 20000000
namespace Go.Proofs.YtdohpenfkdckiabGreatDoor
open Go.Proofs.Tryz
open Go.RowKit
theorem qR2{O:qF0}{n:Nat}{w:World}{hs:List HL}{ls:List (Lnk (Tn n))}{cur:Array Value}{off i:Nat}{l:Lnk (Tn n)}(hb:Both (RL O n w) hs ls)(hcur:∀ i (h:i<hs.length),cur[off+i*4]?=some (.string hs[i].key)∧cur[off+i*4+1]?=some (.int .i64 hs[i].b)∧cur[off+i*4+2]?=some (.int .u64 hs[i].s)∧cur[off+i*4+3]?=some (.pointer hs[i].ptr))(h:ls[i]?=some l):
  ∃ x:HL,i<hs.length∧RL O n w x l∧cur[off+i*4]?=some (.string x.key)∧cur[off+i*4+1]?=some (.int .i64 x.b)∧cur[off+i*4+2]?=some (.int .u64 x.s)∧cur[off+i*4+3]?=some (.pointer x.ptr):=by
 obtain⟨hlt,he⟩:=List.getElem?_eq_some_iff.1 h;have hl:i<hs.length:=by rw[hb.1];exact hlt
 have hr:=hb.2 i hl hlt;rw[he] at hr;exact⟨hs[i],hl,hr,hcur i hl⟩
theorem qK6{W:World}{k:Nat}{a b c d:Value}(v0 v1 v2 v3:Value)(h:W.heap[k]?=some (.cells #[a,b,c,d] 81)):
  ((((W.setCell ⟨k,0,none⟩ v0).setCell ⟨k,1,none⟩ v1).setCell ⟨k,2,none⟩ v2).setCell ⟨k,3,none⟩ v3).heap[k]?=some (.cells #[v0,v1,v2,v3] 81)∧Kp [k] W ((((W.setCell ⟨k,0,none⟩ v0).setCell ⟨k,1,none⟩ v1).setCell ⟨k,2,none⟩ v2).setCell ⟨k,3,none⟩ v3):=
 ⟨ω (ω (ω (ω h 0 _) 1 _) 2 _) 3 _,((((Kp.refl _ W).sc _).sc _).sc _).sc _⟩
end Go.Proofs.YtdohpenfkdckiabGreatDoor
