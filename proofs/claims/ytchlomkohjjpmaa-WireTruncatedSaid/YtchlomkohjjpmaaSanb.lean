/-
  The examples that every statement plays first: true, and nothing that was there has changed.
-/
import Derived.Test.YtchlomkohjjpmaaSana
namespace Go.Proofs.Ytchlomkohjjpmaa
open Go.RowKit

set_option maxRecDepth 1000000 in
set_option maxHeartbeats 4000000 in
theorem sanity_any (w : World) :
    Calls Try.prog 12 #[] w fun e w' => e = .returned (.bool true) ∧ Below w.heap.size w w' := by
  go_enter Try.func12, Try.ntmps12
  go_wp2_with fail
  refine (sane_int [128, 1, 9] _ 3 64 2 0 rfl rfl (by omega) sane1 w _ rfl).mono ?_
  rintro e w1 ⟨rfl, b1⟩
  go_wp2_with fail
  refine (sane_int [128] _ 1 0 0 5 rfl rfl (by omega) sane2 w1 _ rfl).mono ?_
  rintro e w2 ⟨rfl, b2⟩
  go_wp2_with fail
  refine (sane_int [128, 0] _ 2 0 0 6 rfl rfl (by omega) sane3 w2 _ rfl).mono ?_
  rintro e w3 ⟨rfl, b3⟩
  go_wp2_with fail
  refine (sane_bytes [4, 97, 98, 7] _ 4 ⟨#[97, 98]⟩ 3 0 rfl rfl (by omega) sane4 w3 _ rfl).mono ?_
  rintro e w4 ⟨rfl, b4⟩
  go_wp2_with fail
  refine (sane_ints [4, 2, 1] _ 3 [1, -1] 2 3 0 rfl rfl (by omega) sane5 rfl w4 _ rfl).mono ?_
  rintro e w5 ⟨A5, c5, rfl, l5, b5⟩
  have z1 := b1.size
  have z2 := b2.size
  have z3 := b3.size
  have z4 := b4.size
  have z5 := b5.size
  have bb5 := b1.trans ((b2.mono z1).trans ((b3.mono (by omega)).trans ((b4.mono (by omega)).trans (b5.mono (by omega)))))
  clear b1 b2 b3 b4 b5 z1 z2 z3 z4
  have ld := Lies.new w5 (dcells [[1, 2, 0, 0, 0, 0, 0, 0, 0, 0, 0, 0, 0, 0, 0, 0]]) 57
  have l5 := l5.alloc (.cells (dcells [[1, 2, 0, 0, 0, 0, 0, 0, 0, 0, 0, 0, 0, 0, 0, 0]]).toArray 57)
  have bb := bb5.alloc bb5.size (.cells (dcells [[1, 2, 0, 0, 0, 0, 0, 0, 0, 0, 0, 0, 0, 0, 0, 0]]).toArray 57)
  clear bb5
  have hf16 : Is16 [[1, 2, 0, 0, 0, 0, 0, 0, 0, 0, 0, 0, 0, 0, 0, 0]] := by intro d hd; simp at hd; subst hd; rfl
  go_wp2_with fail
  refine (sane_digests [[1, 2, 0, 0, 0, 0, 0, 0, 0, 0, 0, 0, 0, 0, 0, 0]] _ 1 17 _ rfl hf16 rfl (by omega) sane11 rfl (w5.alloc (.cells (dcells [[1, 2, 0, 0, 0, 0, 0, 0, 0, 0, 0, 0, 0, 0, 0, 0]]).toArray 57)) _ (by simp)).mono ?_
  rintro e w6 ⟨A6, c6, rfl, hc6, l6, b6⟩
  have ld := ld.below b6
  have l5 := l5.below b6
  have bb := bb.trans (b6.mono bb.size)
  clear b6
  go_wp2_with fail
  refine (sane_getDigests _ 17 c6 [[1, 2, 0, 0, 0, 0, 0, 0, 0, 0, 0, 0, 0, 0, 0, 0]] 1 17 0 rfl (by omega) hc6 sane12 rfl w6 A6 l6).mono ?_
  rintro e w7 ⟨A7, c7, rfl, l7, b7⟩
  have ld := ld.below b7
  have l5 := l5.below b7
  have bb := bb.trans (b7.mono bb.size)
  clear b7 l6
  go_wp2_with fail
  refine (sane_strings [4, 0, 2, 97, 5] _ 5 [[], [97]] 2 4 0 rfl rfl (by omega) sane6 rfl w7 _ rfl).mono ?_
  rintro e w8 ⟨A8, c8, rfl, l8, b8⟩
  have ld := ld.below b8
  have l5 := l5.below b8
  have l7 := l7.below b8
  have bb := bb.trans (b8.mono bb.size)
  clear b8
  go_wp2_with fail
  refine (sane_sameTexts [[], [97]] _ 2 rfl rfl (by omega) A8 c8 w8 _ rfl l8).mono ?_
  rintro e w9 ⟨rfl, b9⟩
  have ld := ld.below b9
  have l5 := l5.below b9
  have l7 := l7.below b9
  have bb := bb.trans (b9.mono bb.size)
  clear b9 l8
  go_wp2_with fail
  refine (sane_encStrings [[], [97]] _ 2 4 _ rfl rfl (by omega) sane8 rfl (by omega) w9 _ rfl).mono ?_
  rintro e w10 ⟨A10, c10, rfl, l10, b10⟩
  have ld := ld.below b10
  have l5 := l5.below b10
  have l7 := l7.below b10
  have bb := bb.trans (b10.mono bb.size)
  clear b10
  go_wp2_with fail
  refine (same_lit [4, 0, 2, 97] _ 4 rfl rfl A10 4 c10 rfl w10 _ rfl l10).mono ?_
  rintro e w11 ⟨rfl, b11⟩
  have ld := ld.below b11
  have l5 := l5.below b11
  have l7 := l7.below b11
  have bb := bb.trans (b11.mono bb.size)
  clear b11 l10
  go_wp2_with fail
  refine (sane_encInt (-65) 2 _ sane7 rfl (by omega) (by omega) w11).mono ?_
  rintro e w12 ⟨A12, c12, rfl, l12, b12⟩
  have ld := ld.below b12
  have l5 := l5.below b12
  have l7 := l7.below b12
  have bb := bb.trans (b12.mono bb.size)
  clear b12
  go_wp2_with fail
  refine (same_lit [129, 1] _ 2 rfl rfl A12 2 c12 rfl w12 _ rfl l12).mono ?_
  rintro e w13 ⟨rfl, b13⟩
  have ld := ld.below b13
  have l5 := l5.below b13
  have l7 := l7.below b13
  have bb := bb.trans (b13.mono bb.size)
  clear b13 l12
  go_wp2_with fail
  refine (sane_sameInts [1, -1] _ 2 rfl rfl (by omega) A5 c5 w13 _ rfl l5).mono ?_
  rintro e w14 ⟨rfl, b14⟩
  have ld := ld.below b14
  have l7 := l7.below b14
  have bb := bb.trans (b14.mono bb.size)
  clear b14 l5
  go_wp2_with fail
  refine (sane_encBytes ⟨#[97, 98]⟩ 3 _ sane10 rfl (by decide) w14).mono ?_
  rintro e w15 ⟨A15, c15, rfl, l15, b15⟩
  have ld := ld.below b15
  have l7 := l7.below b15
  have bb := bb.trans (b15.mono bb.size)
  clear b15
  go_wp2_with fail
  refine (same_lit [4, 97, 98] _ 3 rfl rfl A15 3 c15 rfl w15 _ rfl l15).mono ?_
  rintro e w16 ⟨rfl, b16⟩
  have ld := ld.below b16
  have l7 := l7.below b16
  have bb := bb.trans (b16.mono bb.size)
  clear b16 l15
  go_wp2_with fail
  refine (sane_encInts [1, -1] _ 2 3 _ rfl (by intro n hn; simp at hn; omega) rfl (by omega) sane9 rfl (by omega) w16 _ rfl).mono ?_
  rintro e w17 ⟨A17, c17, rfl, l17, b17⟩
  have ld := ld.below b17
  have l7 := l7.below b17
  have bb := bb.trans (b17.mono bb.size)
  clear b17
  go_wp2_with fail
  refine (same_lit [4, 2, 1] _ 3 rfl rfl A17 3 c17 rfl w17 _ rfl l17).mono ?_
  rintro e w18 ⟨rfl, b18⟩
  have ld := ld.below b18
  have l7 := l7.below b18
  have bb := bb.trans (b18.mono bb.size)
  clear b18 l17
  have q0 : w18.cell? ⟨w5.heap.size, 0, none⟩ = some (.int .u8 1) := by have h := ld.range 0 _ rfl; simpa [bv] using h
  have q1 : w18.cell? ⟨w5.heap.size, 1, none⟩ = some (.int .u8 2) := by have h := ld.range 1 _ rfl; simpa [bv] using h
  have q2 : w18.cell? ⟨w5.heap.size, 2, none⟩ = some (.int .u8 0) := by have h := ld.range 2 _ rfl; simpa [bv] using h
  have q3 : w18.cell? ⟨w5.heap.size, 3, none⟩ = some (.int .u8 0) := by have h := ld.range 3 _ rfl; simpa [bv] using h
  have q4 : w18.cell? ⟨w5.heap.size, 4, none⟩ = some (.int .u8 0) := by have h := ld.range 4 _ rfl; simpa [bv] using h
  have q5 : w18.cell? ⟨w5.heap.size, 5, none⟩ = some (.int .u8 0) := by have h := ld.range 5 _ rfl; simpa [bv] using h
  have q6 : w18.cell? ⟨w5.heap.size, 6, none⟩ = some (.int .u8 0) := by have h := ld.range 6 _ rfl; simpa [bv] using h
  have q7 : w18.cell? ⟨w5.heap.size, 7, none⟩ = some (.int .u8 0) := by have h := ld.range 7 _ rfl; simpa [bv] using h
  have q8 : w18.cell? ⟨w5.heap.size, 8, none⟩ = some (.int .u8 0) := by have h := ld.range 8 _ rfl; simpa [bv] using h
  have q9 : w18.cell? ⟨w5.heap.size, 9, none⟩ = some (.int .u8 0) := by have h := ld.range 9 _ rfl; simpa [bv] using h
  have q10 : w18.cell? ⟨w5.heap.size, 10, none⟩ = some (.int .u8 0) := by have h := ld.range 10 _ rfl; simpa [bv] using h
  have q11 : w18.cell? ⟨w5.heap.size, 11, none⟩ = some (.int .u8 0) := by have h := ld.range 11 _ rfl; simpa [bv] using h
  have q12 : w18.cell? ⟨w5.heap.size, 12, none⟩ = some (.int .u8 0) := by have h := ld.range 12 _ rfl; simpa [bv] using h
  have q13 : w18.cell? ⟨w5.heap.size, 13, none⟩ = some (.int .u8 0) := by have h := ld.range 13 _ rfl; simpa [bv] using h
  have q14 : w18.cell? ⟨w5.heap.size, 14, none⟩ = some (.int .u8 0) := by have h := ld.range 14 _ rfl; simpa [bv] using h
  have q15 : w18.cell? ⟨w5.heap.size, 15, none⟩ = some (.int .u8 0) := by have h := ld.range 15 _ rfl; simpa [bv] using h
  go_wp2_with fail
  refine (sane_sameDigests [[1, 2, 0, 0, 0, 0, 0, 0, 0, 0, 0, 0, 0, 0, 0, 0]] _ 1 rfl hf16 rfl (by omega) A7 c7 w18 _ rfl l7).mono ?_
  rintro e w19 ⟨rfl, b19⟩
  have bb := bb.trans (b19.mono bb.size)
  clear q0 q1 q2 q3 q4 q5 q6 q7 q8 q9 q10 q11 q12 q13 q14 q15 b19 ld l7
  go_wp2_with fail
  go_ret
  exact ⟨rfl, bb⟩

end Go.Proofs.Ytchlomkohjjpmaa
