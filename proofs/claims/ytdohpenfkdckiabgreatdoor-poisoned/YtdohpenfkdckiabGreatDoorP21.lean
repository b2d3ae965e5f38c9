import Derived.Test.YtdohpenfkdckiabGreatDoorP06
import Derived.BigRegion
set_option linter.all false
set_option maxRecDepth 100000
set_option maxHeartbeats 20000000
namespace Go.Proofs.YtdohpenfkdckiabGreatDoor
open Go.Proofs.Tryz
open Go.RowKit
theorem qI4{w:World}{g:Nat}{a b:Int}{tg:TypeId}(h:w.heap[g]?=some (.cells #[.int .u8 a,.int .u8 b] tg)):
  ∃ s:ByteArray,s.size=2∧Sem.run prog (convert 90 9 (.slice (some ⟨g,0,none⟩) 2 2)) w=.ok (.string s) w:=by
 rw[run_convert_bytes_string w _ _ _ _ _ _ underlying90 underlying5 underlying9];have hload:=zD0 (P:=prog) (o:=0) (n:=2) h (by simp);have e:qA1 #[.int .u8 a,.int .u8 b] 0 2=(([a,b]:List Int).map (.int .u8)).toArray:=by rfl
 rw[e] at hload;exact⟨_,by rfl,run_bytesToString w _ _ _ _ hload⟩
def qG4:ByteArray:=⟨#[102,105,114,115,116]⟩
theorem qI1(x:ByteArray):(⟨#[107]⟩:ByteArray).extract 0 1++x≠qG4:=fun e=>by
 have h:=congrArg (fun s:ByteArray=>s.data.toList.head?) e;simp[qG4,ByteArray.data_append,ByteArray.data_extract] at h
theorem qI3(x:ByteArray):(⟨#[107,101,121,48,48,48]⟩:ByteArray).extract 0 6++x≠qG4:=fun e=>by
 have h:=congrArg (fun s:ByteArray=>s.data.toList.head?) e;simp[qG4,ByteArray.data_append,ByteArray.data_extract] at h
theorem qI2(x:ByteArray):(⟨#[107,101,121,48,48,48]⟩:ByteArray).extract 0 1++x≠qG4:=fun e=>by
 have h:=congrArg (fun s:ByteArray=>s.data.toList.head?) e;simp[qG4,ByteArray.data_append,ByteArray.data_extract] at h
def qH6(e:Ending)(w w':World):Prop:=(∃ s:ByteArray,e=.returned (.string s)∧1≤s.size∧s.size≤8∧s≠qG4)∧Kp [] w w'
theorem jC0(w:World):Calls prog 62 #[.int .i64 0] w fun e w'=>qH6 e w w':=by
 obtain⟨s,hs2,hs⟩:=qI4 (w:=(w.alloc (.cells #[.int .u8 97,.int .u8 97] 5)).drew) (g:=w.heap.size) (a:=97) (b:=97) (tg:=5) (μ w _);go_enter func62,ntmps62;go_wp2_with fail
 go_region
 all_goals go_wp2_with fail
 all_goals
  go_ret;exact⟨⟨_,rfl,by simp only[ByteArray.size_append,ByteArray.size_extract,hs2];decide,by simp only[ByteArray.size_append,ByteArray.size_extract,hs2];decide,by first | exact qI1 _ | exact qI3 _ | exact qI2 _⟩,((Kp.refl _ _).alloc _).drew⟩
theorem jC1(w:World):Calls prog 62 #[.int .i64 1] w fun e w'=>qH6 e w w':=by
 obtain⟨s,hs2,hs⟩:=qI4 (w:=(w.alloc (.cells #[.int .u8 98,.int .u8 97] 5)).drew) (g:=w.heap.size) (a:=98) (b:=97) (tg:=5) (μ w _);go_enter func62,ntmps62;go_wp2_with fail
 go_region
 all_goals go_wp2_with fail
 all_goals
  go_ret;exact⟨⟨_,rfl,by simp only[ByteArray.size_append,ByteArray.size_extract,hs2];decide,by simp only[ByteArray.size_append,ByteArray.size_extract,hs2];decide,by first | exact qI1 _ | exact qI3 _ | exact qI2 _⟩,((Kp.refl _ _).alloc _).drew⟩
theorem jD2(w:World):Calls prog 62 #[.int .i64 2] w fun e w'=>qH6 e w w':=by
 obtain⟨s,hs2,hs⟩:=qI4 (w:=(w.alloc (.cells #[.int .u8 99,.int .u8 97] 5)).drew) (g:=w.heap.size) (a:=99) (b:=97) (tg:=5) (μ w _);go_enter func62,ntmps62;go_wp2_with fail
 go_region
 all_goals go_wp2_with fail
 all_goals
  go_ret;exact⟨⟨_,rfl,by simp only[ByteArray.size_append,ByteArray.size_extract,hs2];decide,by simp only[ByteArray.size_append,ByteArray.size_extract,hs2];decide,by first | exact qI1 _ | exact qI3 _ | exact qI2 _⟩,((Kp.refl _ _).alloc _).drew⟩
theorem jD3(w:World):Calls prog 62 #[.int .i64 3] w fun e w'=>qH6 e w w':=by
 obtain⟨s,hs2,hs⟩:=qI4 (w:=(w.alloc (.cells #[.int .u8 100,.int .u8 97] 5)).drew) (g:=w.heap.size) (a:=100) (b:=97) (tg:=5) (μ w _);go_enter func62,ntmps62;go_wp2_with fail
 go_region
 all_goals go_wp2_with fail
 all_goals
  go_ret;exact⟨⟨_,rfl,by simp only[ByteArray.size_append,ByteArray.size_extract,hs2];decide,by simp only[ByteArray.size_append,ByteArray.size_extract,hs2];decide,by first | exact qI1 _ | exact qI3 _ | exact qI2 _⟩,((Kp.refl _ _).alloc _).drew⟩
theorem jD4(w:World):Calls prog 62 #[.int .i64 4] w fun e w'=>qH6 e w w':=by
 obtain⟨s,hs2,hs⟩:=qI4 (w:=(w.alloc (.cells #[.int .u8 101,.int .u8 97] 5)).drew) (g:=w.heap.size) (a:=101) (b:=97) (tg:=5) (μ w _);go_enter func62,ntmps62;go_wp2_with fail
 go_region
 all_goals go_wp2_with fail
 all_goals
  go_ret;exact⟨⟨_,rfl,by simp only[ByteArray.size_append,ByteArray.size_extract,hs2];decide,by simp only[ByteArray.size_append,ByteArray.size_extract,hs2];decide,by first | exact qI1 _ | exact qI3 _ | exact qI2 _⟩,((Kp.refl _ _).alloc _).drew⟩
theorem jD5(w:World):Calls prog 62 #[.int .i64 5] w fun e w'=>qH6 e w w':=by
 obtain⟨s,hs2,hs⟩:=qI4 (w:=(w.alloc (.cells #[.int .u8 102,.int .u8 97] 5)).drew) (g:=w.heap.size) (a:=102) (b:=97) (tg:=5) (μ w _);go_enter func62,ntmps62;go_wp2_with fail
 go_region
 all_goals go_wp2_with fail
 all_goals
  go_ret;exact⟨⟨_,rfl,by simp only[ByteArray.size_append,ByteArray.size_extract,hs2];decide,by simp only[ByteArray.size_append,ByteArray.size_extract,hs2];decide,by first | exact qI1 _ | exact qI3 _ | exact qI2 _⟩,((Kp.refl _ _).alloc _).drew⟩
theorem jD6(w:World):Calls prog 62 #[.int .i64 6] w fun e w'=>qH6 e w w':=by
 obtain⟨s,hs2,hs⟩:=qI4 (w:=(w.alloc (.cells #[.int .u8 103,.int .u8 97] 5)).drew) (g:=w.heap.size) (a:=103) (b:=97) (tg:=5) (μ w _);go_enter func62,ntmps62;go_wp2_with fail
 go_region
 all_goals go_wp2_with fail
 all_goals
  go_ret;exact⟨⟨_,rfl,by simp only[ByteArray.size_append,ByteArray.size_extract,hs2];decide,by simp only[ByteArray.size_append,ByteArray.size_extract,hs2];decide,by first | exact qI1 _ | exact qI3 _ | exact qI2 _⟩,((Kp.refl _ _).alloc _).drew⟩
theorem jD7(w:World):Calls prog 62 #[.int .i64 7] w fun e w'=>qH6 e w w':=by
 obtain⟨s,hs2,hs⟩:=qI4 (w:=(w.alloc (.cells #[.int .u8 104,.int .u8 97] 5)).drew) (g:=w.heap.size) (a:=104) (b:=97) (tg:=5) (μ w _);go_enter func62,ntmps62;go_wp2_with fail
 go_region
 all_goals go_wp2_with fail
 all_goals
  go_ret;exact⟨⟨_,rfl,by simp only[ByteArray.size_append,ByteArray.size_extract,hs2];decide,by simp only[ByteArray.size_append,ByteArray.size_extract,hs2];decide,by first | exact qI1 _ | exact qI3 _ | exact qI2 _⟩,((Kp.refl _ _).alloc _).drew⟩
theorem jD8(w:World):Calls prog 62 #[.int .i64 8] w fun e w'=>qH6 e w w':=by
 obtain⟨s,hs2,hs⟩:=qI4 (w:=(w.alloc (.cells #[.int .u8 105,.int .u8 97] 5)).drew) (g:=w.heap.size) (a:=105) (b:=97) (tg:=5) (μ w _);go_enter func62,ntmps62;go_wp2_with fail
 go_region
 all_goals go_wp2_with fail
 all_goals
  go_ret;exact⟨⟨_,rfl,by simp only[ByteArray.size_append,ByteArray.size_extract,hs2];decide,by simp only[ByteArray.size_append,ByteArray.size_extract,hs2];decide,by first | exact qI1 _ | exact qI3 _ | exact qI2 _⟩,((Kp.refl _ _).alloc _).drew⟩
theorem jD9(w:World):Calls prog 62 #[.int .i64 9] w fun e w'=>qH6 e w w':=by
 obtain⟨s,hs2,hs⟩:=qI4 (w:=(w.alloc (.cells #[.int .u8 106,.int .u8 97] 5)).drew) (g:=w.heap.size) (a:=106) (b:=97) (tg:=5) (μ w _);go_enter func62,ntmps62;go_wp2_with fail
 go_region
 all_goals go_wp2_with fail
 all_goals
  go_ret;exact⟨⟨_,rfl,by simp only[ByteArray.size_append,ByteArray.size_extract,hs2];decide,by simp only[ByteArray.size_append,ByteArray.size_extract,hs2];decide,by first | exact qI1 _ | exact qI3 _ | exact qI2 _⟩,((Kp.refl _ _).alloc _).drew⟩
theorem jC2(w:World):Calls prog 62 #[.int .i64 10] w fun e w'=>qH6 e w w':=by
 obtain⟨s,hs2,hs⟩:=qI4 (w:=(w.alloc (.cells #[.int .u8 107,.int .u8 97] 5)).drew) (g:=w.heap.size) (a:=107) (b:=97) (tg:=5) (μ w _);go_enter func62,ntmps62;go_wp2_with fail
 go_region
 all_goals go_wp2_with fail
 all_goals
  go_ret;exact⟨⟨_,rfl,by simp only[ByteArray.size_append,ByteArray.size_extract,hs2];decide,by simp only[ByteArray.size_append,ByteArray.size_extract,hs2];decide,by first | exact qI1 _ | exact qI3 _ | exact qI2 _⟩,((Kp.refl _ _).alloc _).drew⟩
theorem jC3(w:World):Calls prog 62 #[.int .i64 11] w fun e w'=>qH6 e w w':=by
 obtain⟨s,hs2,hs⟩:=qI4 (w:=(w.alloc (.cells #[.int .u8 108,.int .u8 97] 5)).drew) (g:=w.heap.size) (a:=108) (b:=97) (tg:=5) (μ w _);go_enter func62,ntmps62;go_wp2_with fail
 go_region
 all_goals go_wp2_with fail
 all_goals
  go_ret;exact⟨⟨_,rfl,by simp only[ByteArray.size_append,ByteArray.size_extract,hs2];decide,by simp only[ByteArray.size_append,ByteArray.size_extract,hs2];decide,by first | exact qI1 _ | exact qI3 _ | exact qI2 _⟩,((Kp.refl _ _).alloc _).drew⟩
theorem jC4(w:World):Calls prog 62 #[.int .i64 12] w fun e w'=>qH6 e w w':=by
 obtain⟨s,hs2,hs⟩:=qI4 (w:=(w.alloc (.cells #[.int .u8 109,.int .u8 97] 5)).drew) (g:=w.heap.size) (a:=109) (b:=97) (tg:=5) (μ w _);go_enter func62,ntmps62;go_wp2_with fail
 go_region
 all_goals go_wp2_with fail
 all_goals
  go_ret;exact⟨⟨_,rfl,by simp only[ByteArray.size_append,ByteArray.size_extract,hs2];decide,by simp only[ByteArray.size_append,ByteArray.size_extract,hs2];decide,by first | exact qI1 _ | exact qI3 _ | exact qI2 _⟩,((Kp.refl _ _).alloc _).drew⟩
theorem jC5(w:World):Calls prog 62 #[.int .i64 13] w fun e w'=>qH6 e w w':=by
 obtain⟨s,hs2,hs⟩:=qI4 (w:=(w.alloc (.cells #[.int .u8 110,.int .u8 97] 5)).drew) (g:=w.heap.size) (a:=110) (b:=97) (tg:=5) (μ w _);go_enter func62,ntmps62;go_wp2_with fail
 go_region
 all_goals go_wp2_with fail
 all_goals
  go_ret;exact⟨⟨_,rfl,by simp only[ByteArray.size_append,ByteArray.size_extract,hs2];decide,by simp only[ByteArray.size_append,ByteArray.size_extract,hs2];decide,by first | exact qI1 _ | exact qI3 _ | exact qI2 _⟩,((Kp.refl _ _).alloc _).drew⟩
theorem jC6(w:World):Calls prog 62 #[.int .i64 14] w fun e w'=>qH6 e w w':=by
 obtain⟨s,hs2,hs⟩:=qI4 (w:=(w.alloc (.cells #[.int .u8 111,.int .u8 97] 5)).drew) (g:=w.heap.size) (a:=111) (b:=97) (tg:=5) (μ w _);go_enter func62,ntmps62;go_wp2_with fail
 go_region
 all_goals go_wp2_with fail
 all_goals
  go_ret;exact⟨⟨_,rfl,by simp only[ByteArray.size_append,ByteArray.size_extract,hs2];decide,by simp only[ByteArray.size_append,ByteArray.size_extract,hs2];decide,by first | exact qI1 _ | exact qI3 _ | exact qI2 _⟩,((Kp.refl _ _).alloc _).drew⟩
theorem jC7(w:World):Calls prog 62 #[.int .i64 15] w fun e w'=>qH6 e w w':=by
 obtain⟨s,hs2,hs⟩:=qI4 (w:=(w.alloc (.cells #[.int .u8 112,.int .u8 97] 5)).drew) (g:=w.heap.size) (a:=112) (b:=97) (tg:=5) (μ w _);go_enter func62,ntmps62;go_wp2_with fail
 go_region
 all_goals go_wp2_with fail
 all_goals
  go_ret;exact⟨⟨_,rfl,by simp only[ByteArray.size_append,ByteArray.size_extract,hs2];decide,by simp only[ByteArray.size_append,ByteArray.size_extract,hs2];decide,by first | exact qI1 _ | exact qI3 _ | exact qI2 _⟩,((Kp.refl _ _).alloc _).drew⟩
theorem jC8(w:World):Calls prog 62 #[.int .i64 16] w fun e w'=>qH6 e w w':=by
 obtain⟨s,hs2,hs⟩:=qI4 (w:=(w.alloc (.cells #[.int .u8 113,.int .u8 97] 5)).drew) (g:=w.heap.size) (a:=113) (b:=97) (tg:=5) (μ w _);go_enter func62,ntmps62;go_wp2_with fail
 go_region
 all_goals go_wp2_with fail
 all_goals
  go_ret;exact⟨⟨_,rfl,by simp only[ByteArray.size_append,ByteArray.size_extract,hs2];decide,by simp only[ByteArray.size_append,ByteArray.size_extract,hs2];decide,by first | exact qI1 _ | exact qI3 _ | exact qI2 _⟩,((Kp.refl _ _).alloc _).drew⟩
theorem jC9(w:World):Calls prog 62 #[.int .i64 17] w fun e w'=>qH6 e w w':=by
 obtain⟨s,hs2,hs⟩:=qI4 (w:=(w.alloc (.cells #[.int .u8 114,.int .u8 97] 5)).drew) (g:=w.heap.size) (a:=114) (b:=97) (tg:=5) (μ w _);go_enter func62,ntmps62;go_wp2_with fail
 go_region
 all_goals go_wp2_with fail
 all_goals
  go_ret;exact⟨⟨_,rfl,by simp only[ByteArray.size_append,ByteArray.size_extract,hs2];decide,by simp only[ByteArray.size_append,ByteArray.size_extract,hs2];decide,by first | exact qI1 _ | exact qI3 _ | exact qI2 _⟩,((Kp.refl _ _).alloc _).drew⟩
theorem jD0(w:World):Calls prog 62 #[.int .i64 18] w fun e w'=>qH6 e w w':=by
 obtain⟨s,hs2,hs⟩:=qI4 (w:=(w.alloc (.cells #[.int .u8 115,.int .u8 97] 5)).drew) (g:=w.heap.size) (a:=115) (b:=97) (tg:=5) (μ w _);go_enter func62,ntmps62;go_wp2_with fail
 go_region
 all_goals go_wp2_with fail
 all_goals
  go_ret;exact⟨⟨_,rfl,by simp only[ByteArray.size_append,ByteArray.size_extract,hs2];decide,by simp only[ByteArray.size_append,ByteArray.size_extract,hs2];decide,by first | exact qI1 _ | exact qI3 _ | exact qI2 _⟩,((Kp.refl _ _).alloc _).drew⟩
theorem jD1(w:World):Calls prog 62 #[.int .i64 19] w fun e w'=>qH6 e w w':=by
 obtain⟨s,hs2,hs⟩:=qI4 (w:=(w.alloc (.cells #[.int .u8 116,.int .u8 97] 5)).drew) (g:=w.heap.size) (a:=116) (b:=97) (tg:=5) (μ w _);go_enter func62,ntmps62;go_wp2_with fail
 go_region
 all_goals go_wp2_with fail
 all_goals
  go_ret;exact⟨⟨_,rfl,by simp only[ByteArray.size_append,ByteArray.size_extract,hs2];decide,by simp only[ByteArray.size_append,ByteArray.size_extract,hs2];decide,by first | exact qI1 _ | exact qI3 _ | exact qI2 _⟩,((Kp.refl _ _).alloc _).drew⟩
theorem jE0(k:Int)(h0:0≤k)(h1:k<20)(w:World):Calls prog 62 #[.int .i64 k] w fun e w'=>qH6 e w w':=by
 have h:k=0∨k=1∨k=2∨k=3∨k=4∨k=5∨k=6∨k=7∨k=8∨k=9∨k=10∨k=11∨k=12∨k=13∨k=14∨k=15∨k=16∨k=17∨k=18∨k=19:=by omega
 rcases h with rfl|rfl|rfl|rfl|rfl|rfl|rfl|rfl|rfl|rfl|rfl|rfl|rfl|rfl|rfl|rfl|rfl|rfl|rfl|rfl
 ·exact jC0 w
 ·exact jC1 w
 ·exact jD2 w
 ·exact jD3 w
 ·exact jD4 w
 ·exact jD5 w
 ·exact jD6 w
 ·exact jD7 w
 ·exact jD8 w
 ·exact jD9 w
 ·exact jC2 w
 ·exact jC3 w
 ·exact jC4 w
 ·exact jC5 w
 ·exact jC6 w
 ·exact jC7 w
 ·exact jC8 w
 ·exact jC9 w
 ·exact jD0 w
 ·exact jD1 w
end Go.Proofs.YtdohpenfkdckiabGreatDoor
