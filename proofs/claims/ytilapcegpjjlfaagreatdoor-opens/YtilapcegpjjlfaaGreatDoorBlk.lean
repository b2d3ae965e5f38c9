import Derived.Test.YtilapcegpjjlfaaGreatDoorFind
namespace Go.Proofs.YtilapcegpjjlfaaGreatDoor
set_option linter.unusedSimpArgs false
set_option linter.unusedVariables false
open Go.RowKit

/-- The block in which a head of an empty tree lies. -/
def headBlock (N : Int) : List UInt8 := toB (sectorOf N 0 0) ++ List.replicate 96 0
def zeroBlock : List UInt8 := List.replicate 128 0
theorem toB_length (xs : List Int) : (toB xs).length = xs.length := by simp [toB]
theorem toB_append (a b : List Int) : toB (a ++ b) = toB a ++ toB b := by simp [toB]
theorem headBlock_length (N : Int) : (headBlock N).length = 128 := by simp [headBlock, toB_length, sectorOf_length]
theorem headBlock_take (N : Int) : (headBlock N).take 32 = toB (sectorOf N 0 0) := by
  have h : (toB (sectorOf N 0 0)).length = 32 := by rw [toB_length, sectorOf_length]
  rw [headBlock, List.take_append_of_le_length (by omega), List.take_of_length_le (by omega)]
theorem headBlock_split (N : Int) : headBlock N = toB markOf ++ (toB (lows 2 0) ++ (toB (lows 8 N) ++ (toB (lows 8 0) ++ (toB (lows 8 (fnv (sector24 N 0 0))) ++ List.replicate 96 0)))) := by
  simp only [headBlock, sectorOf]
  conv => lhs; rw [toB_append]
  simp only [sector24, toB_append, List.append_assoc]
theorem cut_mid {α : Type} (a b c : List α) (k n : Nat) (hk : a.length = k) (hn : b.length = n) : ((a ++ (b ++ c)).drop k).take n = b := by
  subst hk; subst hn
  simp
theorem head_number (N : Int) (h0 : 0 ≤ N) (h1 : N ≤ 1000000000) : numOf (bints (((headBlock N).drop 8).take 8)) = N := by
  have e : ((headBlock N).drop 8).take 8 = toB (lows 8 N) := by
    rw [headBlock_split, ← List.append_assoc (toB markOf)]
    exact cut_mid _ _ _ 8 8 (by simp [toB_length, lows_length, markOf]) (by simp [toB_length, lows_length])
  rw [e, bints_toB _ (lows_bounds 8 N), numOf_lows 8 N (by decide) h0]
  have : (256 : Int) ^ 8 = 18446744073709551616 := by decide
  omega
theorem head_block (N : Int) : numOf (bints (((headBlock N).drop 6).take 2)) = 0 := by
  have e : ((headBlock N).drop 6).take 2 = toB (lows 2 0) := by
    rw [headBlock_split]
    exact cut_mid _ _ _ 6 2 (by simp [toB_length, markOf]) (by simp [toB_length, lows_length])
  rw [e, bints_toB _ (lows_bounds 2 0), numOf_lows 2 0 (by decide) (by decide) (by decide)]
theorem head_sum (N : Int) : numOf (bints (((headBlock N).drop 16).take 8)) = 0 := by
  have e : ((headBlock N).drop 16).take 8 = toB (lows 8 0) := by
    rw [headBlock_split, ← List.append_assoc (toB markOf), ← List.append_assoc (toB markOf ++ toB (lows 2 0))]
    exact cut_mid _ _ _ 16 8 (by simp [toB_length, lows_length, markOf]) (by simp [toB_length, lows_length])
  rw [e, bints_toB _ (lows_bounds 8 0), numOf_lows 8 0 (by decide) (by decide) (by decide)]
theorem zero_number : numOf (bints ((zeroBlock.drop 8).take 8)) = 0 := by decide
theorem zero_block : numOf (bints ((zeroBlock.drop 6).take 2)) = 0 := by decide
theorem zero_sum : numOf (bints ((zeroBlock.drop 16).take 8)) = 0 := by decide
theorem zero_differs : (toB (sectorOf 0 0 0) == zeroBlock.take 32) = false := by
  have h : toB (sectorOf 0 0 0) = 115 :: (toB (sectorOf 0 0 0)).tail := by
    simp [sectorOf, sector24, markOf, toB]
  rw [h]
  simp [zeroBlock, List.replicate]

/-- What a disk of noughts has: no head. -/
structure Fresh (l : List UInt8) : Prop where
  b0 : blockOf l 0 = zeroBlock
  b1 : blockOf l 1 = zeroBlock
/-- What a formatted disk has: two heads. -/
structure Formatted (l : List UInt8) (N : Int) : Prop where
  b0 : blockOf l 0 = headBlock N
  b1 : blockOf l 1 = headBlock (N - 1)
  even : N % 2 = 0
  low : 2 ≤ N
  high : N ≤ 1000000000
end Go.Proofs.YtilapcegpjjlfaaGreatDoor
