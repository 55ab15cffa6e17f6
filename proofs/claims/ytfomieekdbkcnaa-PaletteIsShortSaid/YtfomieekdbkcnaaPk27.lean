/-
  The documentation's examples hold.
-/
import Derived.Test.YtfomieekdbkcnaaPk26
import Derived.Handy
namespace Go.Proofs.Ytfomieekdbkcnaa
open Go Go.RowKit
set_option linter.unusedVariables false
set_option linter.unusedSimpArgs false
namespace Pl
def fl (k : Nat) : List Int := List.replicate k 1 ++ List.replicate (64 - k) 0
theorem fl_zero : List.replicate 64 (0 : Int) = fl 0 := rfl
theorem fl_set {k : Nat} (h : k < 64) : (fl k).set k 1 = fl (k + 1) := by
  unfold fl
  rw [List.set_append, if_neg (by simp), List.length_replicate, Nat.sub_self, show 64 - k = (64 - (k + 1)) + 1 by omega, List.replicate_succ, List.set_cons_zero, List.replicate_succ', List.append_assoc]; rfl
def sOld : List Int := [1, 1, 1, 1, 1, 1, 1, 1, 1, 1, 1, 1, 1, 1, 1, 1, 1, 1, 1, 1, 1, 1, 1, 1, 1, 1, 1, 1, 1, 1, 1, 1, 1, 1, 1, 1, 1, 1, 1, 1, 1, 1, 1, 1, 1, 1, 1, 1, 1, 1, 1, 1, 1, 1, 1, 1, 1, 1, 1, 1, 1, 1, 1, 1]
def sNew : List Int := [1, 1, 1, 1, 1, 1, 1, 1, 1, 6, 1, 1, 1, 1, 1, 1, 1, 1, 1, 1, 1, 1, 1, 1, 1, 1, 1, 1, 1, 1, 1, 1, 1, 1, 1, 1, 1, 1, 1, 1, 1, 1, 1, 1, 1, 1, 1, 1, 1, 1, 1, 1, 1, 1, 1, 1, 1, 1, 1, 1, 1, 1, 1, 1]
theorem fl_old : fl 64 = sOld := by decide +kernel
theorem fl_new : (fl 64).set 9 6 = sNew := by decide +kernel
end Pl
theorem SL.ofBlk {w0 w : World} {F : Nat → Prop} {L : List HP} {g : Nat} {t : TypeId} {cs : List Value} (h : St w0 F L w) (i : Nat) (hL : L[i]? = some (blk g t cs)) (sz n : Nat) (xs : List Value) (hx : xs = cs) (hn : xs.length = n * sz) (hb : n ≤ 9223372036854775807) : SL w sz (some ⟨g, 0, none⟩) n n xs :=
  ⟨hn, by rw [hx]; exact h.liesBlk i hL, Nat.le_refl _, hb⟩
theorem unpack_c (x : List UInt8) (L : List Int) (n e : Int) (w : World) (h : (Pl.un x).1 = L ∧ ((Pl.un x).2.1 : Int) = n ∧ ((Pl.un x).2.2 : Int) = e) (hx : x.length ≤ 1000) :
    Calls Try.prog 13 #[.string (bstr x)] w fun e' w' => ∃ A q c, e' = .returned (.tuple #[.slice A q c, .int .i64 n, .int .i64 e]) ∧ St w noB [own (.slice A q c) 3 1 q (ic L)] w' := by
  have h2 := unpack_any x w hx; rw [h.1, h.2.1, h.2.2] at h2; exact h2
theorem decode_c (x : List UInt8) (L : List Int) (e : Int) (w : World) (h : (Pl.de x).1 = L ∧ ((Pl.de x).2 : Int) = e) (hx : x.length ≤ 1000) :
    Calls Try.prog 18 #[.string (bstr x)] w fun e' w' => ∃ A q c, e' = .returned (.tuple #[.slice A q c, .int .i64 e]) ∧ St w noB [own (.slice A q c) 3 1 q (ic L)] w' := by
  have h2 := decode_any x w hx; rw [h.1, h.2] at h2; exact h2
theorem materials_c (x : List UInt8) (L M : List Int) (e : Int) (w : World) (h : (Pl.de x).1 = L ∧ ((Pl.de x).2 : Int) = e) (hM : Pl.pal L = M) (hx : x.length ≤ 1000) :
    Calls Try.prog 20 #[.string (bstr x)] w fun e' w' => ∃ A q c, e' = .returned (.tuple #[.slice A q c, .int .i64 e]) ∧ St w noB [own (.slice A q c) 3 1 q (ic M)] w' := by
  have h2 := materials_any x w hx; rw [h.1, h.2, hM] at h2; exact h2
theorem patch_c (A : Option Addr) (n c : Nat) (l : List Int) (x : List UInt8) (L : List Int) (e : Int) (w : World) (hG : SL w 1 A n c (ic l)) (h : (Pl.pP l x).1 = L ∧ ((Pl.pP l x).2 : Int) = e) (hb : n ≤ 1000) (hx : x.length ≤ 1000) :
    Calls Try.prog 24 #[.slice A n c, .string (bstr x)] w fun e' w' => ∃ A q c, e' = .returned (.tuple #[.slice A q c, .int .i64 e]) ∧ St w noB [own (.slice A q c) 3 1 q (ic L)] w' := by
  have h2 := patch_any A n c l x w hG hb hx; rw [h.1, h.2] at h2; exact h2
theorem sn_1 : Pl.pS [7, 7, 3, 7] = [4, 2, 7, 3, 4] ∧ Pl.pE [7, 7, 3, 7] = 0 := by decide +kernel
theorem sn_2 : Pl.pS [9, 8, 7] = [3, 3, 9, 8, 7, 36] ∧ Pl.pE [9, 8, 7] = 0 := by decide +kernel
theorem sn_3 : Pl.pS [] = [0] ∧ Pl.pE [] = 0 := by decide +kernel
theorem sn_4 : (Pl.un [4, 2, 7, 3, 4, 99]).1 = [7, 7, 3, 7] ∧ ((Pl.un [4, 2, 7, 3, 4, 99]).2.1 : Int) = 5 ∧ ((Pl.un [4, 2, 7, 3, 4, 99]).2.2 : Int) = 0 := by decide +kernel
theorem sn_5 : (Pl.un [4, 2, 7, 3]).1 = [] ∧ ((Pl.un [4, 2, 7, 3]).2.1 : Int) = 0 ∧ ((Pl.un [4, 2, 7, 3]).2.2 : Int) = 5 := by decide +kernel
theorem sn_6 : (Pl.un [4, 2, 7, 3, 20]).1 = [] ∧ ((Pl.un [4, 2, 7, 3, 20]).2.1 : Int) = 0 ∧ ((Pl.un [4, 2, 7, 3, 20]).2.2 : Int) = 6 := by decide +kernel
theorem sn_7 : (Pl.un [2, 2, 7, 7, 2]).1 = [] ∧ ((Pl.un [2, 2, 7, 7, 2]).2.1 : Int) = 0 ∧ ((Pl.un [2, 2, 7, 7, 2]).2.2 : Int) = 6 := by decide +kernel
theorem sn_8 : Pl.dS Pl.sOld Pl.sNew = [0, 2, 0, 0, 0, 0, 0, 0, 1, 1, 6] ∧ Pl.dE Pl.sOld Pl.sNew = 0 := by decide +kernel
theorem sn_9 : (Pl.pP Pl.sOld [0, 2, 0, 0, 0, 0, 0, 0, 1, 1, 6]).1 = Pl.sNew ∧ ((Pl.pP Pl.sOld [0, 2, 0, 0, 0, 0, 0, 0, 1, 1, 6]).2 : Int) = 0 := by decide +kernel
theorem sn_10 : Pl.eS Pl.sNew = [64, 2, 1, 6, 0, 2, 0, 0, 0, 0, 0, 0] ∧ Pl.eE Pl.sNew = 0 := by decide +kernel
theorem sn_11 : (Pl.de [64, 2, 1, 6, 0, 2, 0, 0, 0, 0, 0, 0]).1 = Pl.sNew ∧ ((Pl.de [64, 2, 1, 6, 0, 2, 0, 0, 0, 0, 0, 0]).2 : Int) = 0 := by decide +kernel
theorem sn_12 : (Pl.de [64, 2, 1, 6, 0, 2, 0, 0, 0, 0, 0, 0]).1 = Pl.sNew ∧ ((Pl.de [64, 2, 1, 6, 0, 2, 0, 0, 0, 0, 0, 0]).2 : Int) = 0 := by decide +kernel
theorem sn_13 : Pl.pal Pl.sNew = [1, 6] := by decide +kernel
set_option maxRecDepth 1000000 in
set_option maxHeartbeats 4000000 in
theorem sanity_any (w : World) :
    Calls Try.prog 10 #[] w fun e w' => e = .returned (.bool true) ∧ Below w.heap.size w w' := by
  have S1 : Hid (St w noB [] w) := Lib.hid (St.start w)
  go_enter Try.func10, Try.ntmps10
  go_upto_region 0 with fail
  refine wpG_region_k (fun K hK => ?_)
  refine @wpG_p _ _ _ _ _ (some 0) (.bool false) _ _ rfl (by rfl) (fun _ => rfl) ?_
  simp only [n1, n3]
  refine wpG_done (fun V2 hv3 => ?_)
  have S4 : Hid (St w noB [] V2) := Lib.hid (S1.out.gr hv3)
  clear S1
  clear hv3
  refine ⟨rfl, hK _ _ ?_⟩
  clear hK
  go_upto_region 1 with fail
  refine wpG_region_k (fun K hK => ?_)
  refine wpG_val (some 36) rfl (by rfl) (fun W5 hg6 => ⟨.slice (some ⟨W5.heap.size, 0, none⟩) 4 4, W5.alloc (.cells #[.int .i64 7, .int .i64 7, .int .i64 3, .int .i64 7] 3), by (go_simp <;> rfl), ?_⟩)
  simp only [n1, n3, n4]
  obtain ⟨g7, U8, hg_, hu_, hS_⟩ := (S4.out.gr hg6).made [.int .i64 7, .int .i64 7, .int .i64 3, .int .i64 7] 3
  rw [← hu_, ← hg_]
  have S9 : Hid (St w noB [blk g7 3 [.int .i64 7, .int .i64 7, .int .i64 3, .int .i64 7]] U8) := Lib.hid hS_
  clear S4
  clear hg_ hu_ hS_ hg6
  refine @wpG_tk _ _ _ _ _ (some 37) (.tuple #[.string (bstr [4, 2, 7, 3, 4]), .int .i64 0]) _ _ rfl (.call (f := 11) (args := #[.slice (some ⟨g7, 0, none⟩) 4 4]) (by rfl) (fun W => by go_simp) (fun W hg => ((pack_any _ _ _ [7, 7, 3, 7] W (SL.ofBlk (S9.out.gr hg) 0 rfl 1 4 (ic [7, 7, 3, 7]) rfl rfl (by decide)) (by decide)).mono (fun e w' h => ⟨h.1.trans (by rw [sn_1.1, sn_1.2]), h.2⟩)))) ?_
  simp only [n1, n3, n4]
  refine @wpG_p _ _ _ _ _ (some 35) (.tuple #[.string (bstr [4, 2, 7, 3, 4]), .int .i64 0]) _ _ rfl (by rfl) (fun _ => rfl) ?_
  simp only [n1, n3, n4]
  refine @wpG_p _ _ _ _ _ (some 38) (.string (bstr [4, 2, 7, 3, 4])) _ _ rfl (by rfl) (fun W => by go_simp) ?_
  simp only [n1, n3, n4]
  refine @wpG_p _ _ _ _ _ (some 39) (.int .i64 0) _ _ rfl (by rfl) (fun W => by go_simp) ?_
  simp only [n1, n3, n4]
  refine @wpG_p _ _ _ _ _ (some 1) (.string (bstr [4, 2, 7, 3, 4])) _ _ rfl (by rfl) (fun _ => rfl) ?_
  simp only [n1, n3, n4]
  refine @wpG_p _ _ _ _ _ (some 2) (.int .i64 0) _ _ rfl (by rfl) (fun _ => rfl) ?_
  simp only [n1, n3, n4]
  refine wpG_done (fun V10 hv11 => ?_)
  have S12 : Hid (St w noB [blk g7 3 [.int .i64 7, .int .i64 7, .int .i64 3, .int .i64 7]] V10) := Lib.hid (S9.out.gr hv11)
  clear S9
  clear hv11
  refine ⟨rfl, hK _ _ ?_⟩
  clear hK
  go_upto_region 2 with fail
  refine wpG_region_k (fun K hK => ?_)
  refine wpG_val (some 41) rfl (by rfl) (fun W13 hg14 => ⟨.slice (some ⟨W13.heap.size, 0, none⟩) 3 3, W13.alloc (.cells #[.int .i64 9, .int .i64 8, .int .i64 7] 3), by (go_simp <;> rfl), ?_⟩)
  simp only [n1, n3, n4]
  obtain ⟨g15, U16, hg_, hu_, hS_⟩ := (S12.out.gr hg14).made [.int .i64 9, .int .i64 8, .int .i64 7] 3
  rw [← hu_, ← hg_]
  have S17 : Hid (St w noB [blk g15 3 [.int .i64 9, .int .i64 8, .int .i64 7], blk g7 3 [.int .i64 7, .int .i64 7, .int .i64 3, .int .i64 7]] U16) := Lib.hid hS_
  clear S12
  clear hg_ hu_ hS_ hg14
  refine @wpG_tk _ _ _ _ _ (some 42) (.tuple #[.string (bstr [3, 3, 9, 8, 7, 36]), .int .i64 0]) _ _ rfl (.call (f := 11) (args := #[.slice (some ⟨g15, 0, none⟩) 3 3]) (by rfl) (fun W => by go_simp) (fun W hg => ((pack_any _ _ _ [9, 8, 7] W (SL.ofBlk (S17.out.gr hg) 0 rfl 1 3 (ic [9, 8, 7]) rfl rfl (by decide)) (by decide)).mono (fun e w' h => ⟨h.1.trans (by rw [sn_2.1, sn_2.2]), h.2⟩)))) ?_
  simp only [n1, n3, n4]
  refine @wpG_p _ _ _ _ _ (some 40) (.tuple #[.string (bstr [3, 3, 9, 8, 7, 36]), .int .i64 0]) _ _ rfl (by rfl) (fun _ => rfl) ?_
  simp only [n1, n3, n4]
  refine @wpG_p _ _ _ _ _ (some 43) (.string (bstr [3, 3, 9, 8, 7, 36])) _ _ rfl (by rfl) (fun W => by go_simp) ?_
  simp only [n1, n3, n4]
  refine @wpG_p _ _ _ _ _ (some 44) (.int .i64 0) _ _ rfl (by rfl) (fun W => by go_simp) ?_
  simp only [n1, n3, n4]
  refine @wpG_p _ _ _ _ _ (some 3) (.string (bstr [3, 3, 9, 8, 7, 36])) _ _ rfl (by rfl) (fun _ => rfl) ?_
  simp only [n1, n3, n4]
  refine @wpG_p _ _ _ _ _ (some 4) (.int .i64 0) _ _ rfl (by rfl) (fun _ => rfl) ?_
  simp only [n1, n3, n4]
  refine wpG_done (fun V18 hv19 => ?_)
  have S20 : Hid (St w noB [blk g15 3 [.int .i64 9, .int .i64 8, .int .i64 7], blk g7 3 [.int .i64 7, .int .i64 7, .int .i64 3, .int .i64 7]] V18) := Lib.hid (S17.out.gr hv19)
  clear S17
  clear hv19
  refine ⟨rfl, hK _ _ ?_⟩
  clear hK
  go_upto_region 3 with fail
  refine wpG_region_k (fun K hK => ?_)
  refine @wpG_tk _ _ _ _ _ (some 46) (.tuple #[.string (bstr [0]), .int .i64 0]) _ _ rfl (.call (f := 11) (args := #[.slice none 0 0]) (by rfl) (fun W => by go_simp) (fun W hg => ((pack_any _ _ _ [] W (SL.nil W 1 0 none (by decide)) (by decide)).mono (fun e w' h => ⟨h.1.trans (by rw [sn_3.1, sn_3.2]), h.2⟩)))) ?_
  simp only [n1, n3, n4]
  refine @wpG_p _ _ _ _ _ (some 45) (.tuple #[.string (bstr [0]), .int .i64 0]) _ _ rfl (by rfl) (fun _ => rfl) ?_
  simp only [n1, n3, n4]
  refine @wpG_p _ _ _ _ _ (some 47) (.string (bstr [0])) _ _ rfl (by rfl) (fun W => by go_simp) ?_
  simp only [n1, n3, n4]
  refine @wpG_p _ _ _ _ _ (some 48) (.int .i64 0) _ _ rfl (by rfl) (fun W => by go_simp) ?_
  simp only [n1, n3, n4]
  refine @wpG_p _ _ _ _ _ (some 5) (.string (bstr [0])) _ _ rfl (by rfl) (fun _ => rfl) ?_
  simp only [n1, n3, n4]
  refine @wpG_p _ _ _ _ _ (some 6) (.int .i64 0) _ _ rfl (by rfl) (fun _ => rfl) ?_
  simp only [n1, n3, n4]
  refine wpG_done (fun V21 hv22 => ?_)
  have S23 : Hid (St w noB [blk g15 3 [.int .i64 9, .int .i64 8, .int .i64 7], blk g7 3 [.int .i64 7, .int .i64 7, .int .i64 3, .int .i64 7]] V21) := Lib.hid (S20.out.gr hv22)
  clear S20
  clear hv22
  refine ⟨rfl, hK _ _ ?_⟩
  clear hK
  go_upto_region 4 with fail
  refine wpG_region_k (fun K hK => ?_)
  refine wpG_val (some 50) rfl (by rfl) (fun W24 hg25 => ⟨.slice (some ⟨W24.heap.size, 0, none⟩) 6 6, W24.alloc (.cells #[.int .u8 4, .int .u8 2, .int .u8 7, .int .u8 3, .int .u8 4, .int .u8 99] 5), by (go_simp <;> rfl), ?_⟩)
  simp only [n1, n3, n4]
  obtain ⟨g26, U27, hg_, hu_, hS_⟩ := (S23.out.gr hg25).made [.int .u8 4, .int .u8 2, .int .u8 7, .int .u8 3, .int .u8 4, .int .u8 99] 5
  rw [← hu_, ← hg_]
  have S28 : Hid (St w noB [blk g26 5 [.int .u8 4, .int .u8 2, .int .u8 7, .int .u8 3, .int .u8 4, .int .u8 99], blk g15 3 [.int .i64 9, .int .i64 8, .int .i64 7], blk g7 3 [.int .i64 7, .int .i64 7, .int .i64 3, .int .i64 7]] U27) := Lib.hid hS_
  clear S23
  clear hg_ hu_ hS_ hg25
  refine @wpG_tk _ _ _ _ _ (some 51) (.string (bstr [4, 2, 7, 3, 4, 99])) _ _ rfl (.call (f := 26) (args := #[.slice (some ⟨g26, 0, none⟩) 6 6]) (by rfl) (fun W => by go_simp) (fun W hg => text_any _ _ _ [4, 2, 7, 3, 4, 99] W (by have h_ := SL.ofBlkx (S28.out.gr hg) 0 rfl 6 rfl; exact h_))) ?_
  simp only [n1, n3, n4]
  refine wpG_call (some 52) 13 #[.string (bstr [4, 2, 7, 3, 4, 99])] rfl (by rfl) (fun W => by go_simp) (fun W29 hg30 => ?_)
  refine (unpack_c [4, 2, 7, 3, 4, 99] [7, 7, 3, 7] 5 0 W29 sn_4 (by decide)).mono ?_
  rintro e w31 ⟨D4, m4_, dc4, rfl, hS_⟩
  refine ⟨_, rfl, ?_⟩
  have hT_ := (S28.out.gr hg30).got hS_
  simp only [n1, n3, n4]
  have S32 : Hid (St w noB [own (.slice D4 m4_ dc4) 3 1 m4_ (ic [7, 7, 3, 7]), blk g26 5 [.int .u8 4, .int .u8 2, .int .u8 7, .int .u8 3, .int .u8 4, .int .u8 99], blk g15 3 [.int .i64 9, .int .i64 8, .int .i64 7], blk g7 3 [.int .i64 7, .int .i64 7, .int .i64 3, .int .i64 7]] w31) := Lib.hid hT_
  clear S28
  clear hT_ hS_ hg30
  refine @wpG_p _ _ _ _ _ (some 49) (.tuple #[.slice D4 m4_ dc4, .int .i64 5, .int .i64 0]) _ _ rfl (by rfl) (fun _ => rfl) ?_
  simp only [n1, n3, n4]
  refine @wpG_p _ _ _ _ _ (some 53) (.slice D4 m4_ dc4) _ _ rfl (by rfl) (fun W => by go_simp) ?_
  simp only [n1, n3, n4]
  refine @wpG_p _ _ _ _ _ (some 54) (.int .i64 5) _ _ rfl (by rfl) (fun W => by go_simp) ?_
  simp only [n1, n3, n4]
  refine @wpG_p _ _ _ _ _ (some 55) (.int .i64 0) _ _ rfl (by rfl) (fun W => by go_simp) ?_
  simp only [n1, n3, n4]
  refine @wpG_p _ _ _ _ _ (some 7) (.slice D4 m4_ dc4) _ _ rfl (by rfl) (fun _ => rfl) ?_
  simp only [n1, n3, n4]
  refine @wpG_p _ _ _ _ _ (some 8) (.int .i64 5) _ _ rfl (by rfl) (fun _ => rfl) ?_
  simp only [n1, n3, n4]
  refine @wpG_p _ _ _ _ _ (some 9) (.int .i64 0) _ _ rfl (by rfl) (fun _ => rfl) ?_
  simp only [n1, n3, n4]
  refine wpG_done (fun V33 hv34 => ?_)
  have S35 : Hid (St w noB [own (.slice D4 m4_ dc4) 3 1 m4_ (ic [7, 7, 3, 7]), blk g26 5 [.int .u8 4, .int .u8 2, .int .u8 7, .int .u8 3, .int .u8 4, .int .u8 99], blk g15 3 [.int .i64 9, .int .i64 8, .int .i64 7], blk g7 3 [.int .i64 7, .int .i64 7, .int .i64 3, .int .i64 7]] V33) := Lib.hid (S32.out.gr hv34)
  clear S32
  clear hv34
  refine ⟨rfl, hK _ _ ?_⟩
  clear hK
  go_upto_region 5 with fail
  refine wpG_region_k (fun K hK => ?_)
  refine wpG_val (some 57) rfl (by rfl) (fun W36 hg37 => ⟨.slice (some ⟨W36.heap.size, 0, none⟩) 4 4, W36.alloc (.cells #[.int .u8 4, .int .u8 2, .int .u8 7, .int .u8 3] 5), by (go_simp <;> rfl), ?_⟩)
  simp only [n1, n3, n4]
  obtain ⟨g38, U39, hg_, hu_, hS_⟩ := (S35.out.gr hg37).made [.int .u8 4, .int .u8 2, .int .u8 7, .int .u8 3] 5
  rw [← hu_, ← hg_]
  have S40 : Hid (St w noB [blk g38 5 [.int .u8 4, .int .u8 2, .int .u8 7, .int .u8 3], own (.slice D4 m4_ dc4) 3 1 m4_ (ic [7, 7, 3, 7]), blk g26 5 [.int .u8 4, .int .u8 2, .int .u8 7, .int .u8 3, .int .u8 4, .int .u8 99], blk g15 3 [.int .i64 9, .int .i64 8, .int .i64 7], blk g7 3 [.int .i64 7, .int .i64 7, .int .i64 3, .int .i64 7]] U39) := Lib.hid hS_
  clear S35
  clear hg_ hu_ hS_ hg37
  refine @wpG_tk _ _ _ _ _ (some 58) (.string (bstr [4, 2, 7, 3])) _ _ rfl (.call (f := 26) (args := #[.slice (some ⟨g38, 0, none⟩) 4 4]) (by rfl) (fun W => by go_simp) (fun W hg => text_any _ _ _ [4, 2, 7, 3] W (by have h_ := SL.ofBlkx (S40.out.gr hg) 0 rfl 4 rfl; exact h_))) ?_
  simp only [n1, n3, n4]
  refine wpG_call (some 59) 13 #[.string (bstr [4, 2, 7, 3])] rfl (by rfl) (fun W => by go_simp) (fun W41 hg42 => ?_)
  refine (unpack_c [4, 2, 7, 3] [] 0 5 W41 sn_5 (by decide)).mono ?_
  rintro e w43 ⟨D5, m5_, dc5, rfl, hS_⟩
  refine ⟨_, rfl, ?_⟩
  have hT_ := (S40.out.gr hg42).got hS_
  simp only [n1, n3, n4]
  have S44 : Hid (St w noB [own (.slice D5 m5_ dc5) 3 1 m5_ (ic []), blk g38 5 [.int .u8 4, .int .u8 2, .int .u8 7, .int .u8 3], own (.slice D4 m4_ dc4) 3 1 m4_ (ic [7, 7, 3, 7]), blk g26 5 [.int .u8 4, .int .u8 2, .int .u8 7, .int .u8 3, .int .u8 4, .int .u8 99], blk g15 3 [.int .i64 9, .int .i64 8, .int .i64 7], blk g7 3 [.int .i64 7, .int .i64 7, .int .i64 3, .int .i64 7]] w43) := Lib.hid hT_
  clear S40
  clear hT_ hS_ hg42
  refine @wpG_p _ _ _ _ _ (some 56) (.tuple #[.slice D5 m5_ dc5, .int .i64 0, .int .i64 5]) _ _ rfl (by rfl) (fun _ => rfl) ?_
  simp only [n1, n3, n4]
  refine @wpG_p _ _ _ _ _ (some 60) (.slice D5 m5_ dc5) _ _ rfl (by rfl) (fun W => by go_simp) ?_
  simp only [n1, n3, n4]
  refine @wpG_p _ _ _ _ _ (some 61) (.int .i64 0) _ _ rfl (by rfl) (fun W => by go_simp) ?_
  simp only [n1, n3, n4]
  refine @wpG_p _ _ _ _ _ (some 62) (.int .i64 5) _ _ rfl (by rfl) (fun W => by go_simp) ?_
  simp only [n1, n3, n4]
  refine @wpG_p _ _ _ _ _ (some 10) (.slice D5 m5_ dc5) _ _ rfl (by rfl) (fun _ => rfl) ?_
  simp only [n1, n3, n4]
  refine @wpG_p _ _ _ _ _ (some 11) (.int .i64 0) _ _ rfl (by rfl) (fun _ => rfl) ?_
  simp only [n1, n3, n4]
  refine @wpG_p _ _ _ _ _ (some 12) (.int .i64 5) _ _ rfl (by rfl) (fun _ => rfl) ?_
  simp only [n1, n3, n4]
  refine wpG_done (fun V45 hv46 => ?_)
  have S47 : Hid (St w noB [own (.slice D5 m5_ dc5) 3 1 m5_ (ic []), blk g38 5 [.int .u8 4, .int .u8 2, .int .u8 7, .int .u8 3], own (.slice D4 m4_ dc4) 3 1 m4_ (ic [7, 7, 3, 7]), blk g26 5 [.int .u8 4, .int .u8 2, .int .u8 7, .int .u8 3, .int .u8 4, .int .u8 99], blk g15 3 [.int .i64 9, .int .i64 8, .int .i64 7], blk g7 3 [.int .i64 7, .int .i64 7, .int .i64 3, .int .i64 7]] V45) := Lib.hid (S44.out.gr hv46)
  clear S44
  clear hv46
  refine ⟨rfl, hK _ _ ?_⟩
  clear hK
  go_upto_region 6 with fail
  refine wpG_region_k (fun K hK => ?_)
  refine wpG_val (some 64) rfl (by rfl) (fun W48 hg49 => ⟨.slice (some ⟨W48.heap.size, 0, none⟩) 5 5, W48.alloc (.cells #[.int .u8 4, .int .u8 2, .int .u8 7, .int .u8 3, .int .u8 20] 5), by (go_simp <;> rfl), ?_⟩)
  simp only [n1, n3, n4]
  obtain ⟨g50, U51, hg_, hu_, hS_⟩ := (S47.out.gr hg49).made [.int .u8 4, .int .u8 2, .int .u8 7, .int .u8 3, .int .u8 20] 5
  rw [← hu_, ← hg_]
  have S52 : Hid (St w noB [blk g50 5 [.int .u8 4, .int .u8 2, .int .u8 7, .int .u8 3, .int .u8 20], own (.slice D5 m5_ dc5) 3 1 m5_ (ic []), blk g38 5 [.int .u8 4, .int .u8 2, .int .u8 7, .int .u8 3], own (.slice D4 m4_ dc4) 3 1 m4_ (ic [7, 7, 3, 7]), blk g26 5 [.int .u8 4, .int .u8 2, .int .u8 7, .int .u8 3, .int .u8 4, .int .u8 99], blk g15 3 [.int .i64 9, .int .i64 8, .int .i64 7], blk g7 3 [.int .i64 7, .int .i64 7, .int .i64 3, .int .i64 7]] U51) := Lib.hid hS_
  clear S47
  clear hg_ hu_ hS_ hg49
  refine @wpG_tk _ _ _ _ _ (some 65) (.string (bstr [4, 2, 7, 3, 20])) _ _ rfl (.call (f := 26) (args := #[.slice (some ⟨g50, 0, none⟩) 5 5]) (by rfl) (fun W => by go_simp) (fun W hg => text_any _ _ _ [4, 2, 7, 3, 20] W (by have h_ := SL.ofBlkx (S52.out.gr hg) 0 rfl 5 rfl; exact h_))) ?_
  simp only [n1, n3, n4]
  refine wpG_call (some 66) 13 #[.string (bstr [4, 2, 7, 3, 20])] rfl (by rfl) (fun W => by go_simp) (fun W53 hg54 => ?_)
  refine (unpack_c [4, 2, 7, 3, 20] [] 0 6 W53 sn_6 (by decide)).mono ?_
  rintro e w55 ⟨D6, m6_, dc6, rfl, hS_⟩
  refine ⟨_, rfl, ?_⟩
  have hT_ := (S52.out.gr hg54).got hS_
  simp only [n1, n3, n4]
  have S56 : Hid (St w noB [own (.slice D6 m6_ dc6) 3 1 m6_ (ic []), blk g50 5 [.int .u8 4, .int .u8 2, .int .u8 7, .int .u8 3, .int .u8 20], own (.slice D5 m5_ dc5) 3 1 m5_ (ic []), blk g38 5 [.int .u8 4, .int .u8 2, .int .u8 7, .int .u8 3], own (.slice D4 m4_ dc4) 3 1 m4_ (ic [7, 7, 3, 7]), blk g26 5 [.int .u8 4, .int .u8 2, .int .u8 7, .int .u8 3, .int .u8 4, .int .u8 99], blk g15 3 [.int .i64 9, .int .i64 8, .int .i64 7], blk g7 3 [.int .i64 7, .int .i64 7, .int .i64 3, .int .i64 7]] w55) := Lib.hid hT_
  clear S52
  clear hT_ hS_ hg54
  refine @wpG_p _ _ _ _ _ (some 63) (.tuple #[.slice D6 m6_ dc6, .int .i64 0, .int .i64 6]) _ _ rfl (by rfl) (fun _ => rfl) ?_
  simp only [n1, n3, n4]
  refine @wpG_p _ _ _ _ _ (some 67) (.slice D6 m6_ dc6) _ _ rfl (by rfl) (fun W => by go_simp) ?_
  simp only [n1, n3, n4]
  refine @wpG_p _ _ _ _ _ (some 68) (.int .i64 0) _ _ rfl (by rfl) (fun W => by go_simp) ?_
  simp only [n1, n3, n4]
  refine @wpG_p _ _ _ _ _ (some 69) (.int .i64 6) _ _ rfl (by rfl) (fun W => by go_simp) ?_
  simp only [n1, n3, n4]
  refine @wpG_p _ _ _ _ _ (some 13) (.slice D6 m6_ dc6) _ _ rfl (by rfl) (fun _ => rfl) ?_
  simp only [n1, n3, n4]
  refine @wpG_p _ _ _ _ _ (some 14) (.int .i64 0) _ _ rfl (by rfl) (fun _ => rfl) ?_
  simp only [n1, n3, n4]
  refine @wpG_p _ _ _ _ _ (some 15) (.int .i64 6) _ _ rfl (by rfl) (fun _ => rfl) ?_
  simp only [n1, n3, n4]
  refine wpG_done (fun V57 hv58 => ?_)
  have S59 : Hid (St w noB [own (.slice D6 m6_ dc6) 3 1 m6_ (ic []), blk g50 5 [.int .u8 4, .int .u8 2, .int .u8 7, .int .u8 3, .int .u8 20], own (.slice D5 m5_ dc5) 3 1 m5_ (ic []), blk g38 5 [.int .u8 4, .int .u8 2, .int .u8 7, .int .u8 3], own (.slice D4 m4_ dc4) 3 1 m4_ (ic [7, 7, 3, 7]), blk g26 5 [.int .u8 4, .int .u8 2, .int .u8 7, .int .u8 3, .int .u8 4, .int .u8 99], blk g15 3 [.int .i64 9, .int .i64 8, .int .i64 7], blk g7 3 [.int .i64 7, .int .i64 7, .int .i64 3, .int .i64 7]] V57) := Lib.hid (S56.out.gr hv58)
  clear S56
  clear hv58
  refine ⟨rfl, hK _ _ ?_⟩
  clear hK
  go_upto_region 7 with fail
  refine wpG_region_k (fun K hK => ?_)
  refine wpG_val (some 71) rfl (by rfl) (fun W60 hg61 => ⟨.slice (some ⟨W60.heap.size, 0, none⟩) 5 5, W60.alloc (.cells #[.int .u8 2, .int .u8 2, .int .u8 7, .int .u8 7, .int .u8 2] 5), by (go_simp <;> rfl), ?_⟩)
  simp only [n1, n3, n4]
  obtain ⟨g62, U63, hg_, hu_, hS_⟩ := (S59.out.gr hg61).made [.int .u8 2, .int .u8 2, .int .u8 7, .int .u8 7, .int .u8 2] 5
  rw [← hu_, ← hg_]
  have S64 : Hid (St w noB [blk g62 5 [.int .u8 2, .int .u8 2, .int .u8 7, .int .u8 7, .int .u8 2], own (.slice D6 m6_ dc6) 3 1 m6_ (ic []), blk g50 5 [.int .u8 4, .int .u8 2, .int .u8 7, .int .u8 3, .int .u8 20], own (.slice D5 m5_ dc5) 3 1 m5_ (ic []), blk g38 5 [.int .u8 4, .int .u8 2, .int .u8 7, .int .u8 3], own (.slice D4 m4_ dc4) 3 1 m4_ (ic [7, 7, 3, 7]), blk g26 5 [.int .u8 4, .int .u8 2, .int .u8 7, .int .u8 3, .int .u8 4, .int .u8 99], blk g15 3 [.int .i64 9, .int .i64 8, .int .i64 7], blk g7 3 [.int .i64 7, .int .i64 7, .int .i64 3, .int .i64 7]] U63) := Lib.hid hS_
  clear S59
  clear hg_ hu_ hS_ hg61
  refine @wpG_tk _ _ _ _ _ (some 72) (.string (bstr [2, 2, 7, 7, 2])) _ _ rfl (.call (f := 26) (args := #[.slice (some ⟨g62, 0, none⟩) 5 5]) (by rfl) (fun W => by go_simp) (fun W hg => text_any _ _ _ [2, 2, 7, 7, 2] W (by have h_ := SL.ofBlkx (S64.out.gr hg) 0 rfl 5 rfl; exact h_))) ?_
  simp only [n1, n3, n4]
  refine wpG_call (some 73) 13 #[.string (bstr [2, 2, 7, 7, 2])] rfl (by rfl) (fun W => by go_simp) (fun W65 hg66 => ?_)
  refine (unpack_c [2, 2, 7, 7, 2] [] 0 6 W65 sn_7 (by decide)).mono ?_
  rintro e w67 ⟨D7, m7_, dc7, rfl, hS_⟩
  refine ⟨_, rfl, ?_⟩
  have hT_ := (S64.out.gr hg66).got hS_
  simp only [n1, n3, n4]
  have S68 : Hid (St w noB [own (.slice D7 m7_ dc7) 3 1 m7_ (ic []), blk g62 5 [.int .u8 2, .int .u8 2, .int .u8 7, .int .u8 7, .int .u8 2], own (.slice D6 m6_ dc6) 3 1 m6_ (ic []), blk g50 5 [.int .u8 4, .int .u8 2, .int .u8 7, .int .u8 3, .int .u8 20], own (.slice D5 m5_ dc5) 3 1 m5_ (ic []), blk g38 5 [.int .u8 4, .int .u8 2, .int .u8 7, .int .u8 3], own (.slice D4 m4_ dc4) 3 1 m4_ (ic [7, 7, 3, 7]), blk g26 5 [.int .u8 4, .int .u8 2, .int .u8 7, .int .u8 3, .int .u8 4, .int .u8 99], blk g15 3 [.int .i64 9, .int .i64 8, .int .i64 7], blk g7 3 [.int .i64 7, .int .i64 7, .int .i64 3, .int .i64 7]] w67) := Lib.hid hT_
  clear S64
  clear hT_ hS_ hg66
  refine @wpG_p _ _ _ _ _ (some 70) (.tuple #[.slice D7 m7_ dc7, .int .i64 0, .int .i64 6]) _ _ rfl (by rfl) (fun _ => rfl) ?_
  simp only [n1, n3, n4]
  refine @wpG_p _ _ _ _ _ (some 74) (.slice D7 m7_ dc7) _ _ rfl (by rfl) (fun W => by go_simp) ?_
  simp only [n1, n3, n4]
  refine @wpG_p _ _ _ _ _ (some 75) (.int .i64 0) _ _ rfl (by rfl) (fun W => by go_simp) ?_
  simp only [n1, n3, n4]
  refine @wpG_p _ _ _ _ _ (some 76) (.int .i64 6) _ _ rfl (by rfl) (fun W => by go_simp) ?_
  simp only [n1, n3, n4]
  refine @wpG_p _ _ _ _ _ (some 16) (.slice D7 m7_ dc7) _ _ rfl (by rfl) (fun _ => rfl) ?_
  simp only [n1, n3, n4]
  refine @wpG_p _ _ _ _ _ (some 17) (.int .i64 0) _ _ rfl (by rfl) (fun _ => rfl) ?_
  simp only [n1, n3, n4]
  refine @wpG_p _ _ _ _ _ (some 18) (.int .i64 6) _ _ rfl (by rfl) (fun _ => rfl) ?_
  simp only [n1, n3, n4]
  refine wpG_done (fun V69 hv70 => ?_)
  have S71 : Hid (St w noB [own (.slice D7 m7_ dc7) 3 1 m7_ (ic []), blk g62 5 [.int .u8 2, .int .u8 2, .int .u8 7, .int .u8 7, .int .u8 2], own (.slice D6 m6_ dc6) 3 1 m6_ (ic []), blk g50 5 [.int .u8 4, .int .u8 2, .int .u8 7, .int .u8 3, .int .u8 20], own (.slice D5 m5_ dc5) 3 1 m5_ (ic []), blk g38 5 [.int .u8 4, .int .u8 2, .int .u8 7, .int .u8 3], own (.slice D4 m4_ dc4) 3 1 m4_ (ic [7, 7, 3, 7]), blk g26 5 [.int .u8 4, .int .u8 2, .int .u8 7, .int .u8 3, .int .u8 4, .int .u8 99], blk g15 3 [.int .i64 9, .int .i64 8, .int .i64 7], blk g7 3 [.int .i64 7, .int .i64 7, .int .i64 3, .int .i64 7]] V69) := Lib.hid (S68.out.gr hv70)
  clear S68
  clear hv70
  refine ⟨rfl, hK _ _ ?_⟩
  clear hK
  go_upto_region 8 with fail
  refine wpG_region_k (fun K hK => ?_)
  refine wpG_val (some 77) rfl (by rfl) (fun W72 hg73 => ?_)
  refine makez_ex 22 3 (.int .i64 0) rfl 8 (.const (.int .i64 64)) (.const (.int .i64 64)) rfl Try.underlying22 (by kernel_rfl) 64 64 rfl rfl (by decide) (by decide) (by decide) W72 (S71.out.gr hg73) (fun g75 U74 hS_ => ?_)
  clear hg73
  simp only [n1, n3, n4]
  rw [show List.replicate 64 (.int .i64 0) = ic (Pl.fl 0) from (by rw [← Pl.fl_zero]; simp only [ic, List.map_replicate])] at hS_
  have S76 : Hid (St w noB [own (.slice (some ⟨g75, 0, none⟩) 64 64) 3 1 64 (ic (Pl.fl 0)), own (.slice D7 m7_ dc7) 3 1 m7_ (ic []), blk g62 5 [.int .u8 2, .int .u8 2, .int .u8 7, .int .u8 7, .int .u8 2], own (.slice D6 m6_ dc6) 3 1 m6_ (ic []), blk g50 5 [.int .u8 4, .int .u8 2, .int .u8 7, .int .u8 3, .int .u8 20], own (.slice D5 m5_ dc5) 3 1 m5_ (ic []), blk g38 5 [.int .u8 4, .int .u8 2, .int .u8 7, .int .u8 3], own (.slice D4 m4_ dc4) 3 1 m4_ (ic [7, 7, 3, 7]), blk g26 5 [.int .u8 4, .int .u8 2, .int .u8 7, .int .u8 3, .int .u8 4, .int .u8 99], blk g15 3 [.int .i64 9, .int .i64 8, .int .i64 7], blk g7 3 [.int .i64 7, .int .i64 7, .int .i64 3, .int .i64 7]] U74) := Lib.hid hS_
  clear S71
  clear hS_
  refine @wpG_p _ _ _ _ _ (some 19) (.slice (some ⟨g75, 0, none⟩) 64 64) _ _ rfl (by rfl) (fun _ => rfl) ?_
  simp only [n1, n3, n4]
  refine wpG_done (fun V77 hv78 => ?_)
  have S79 : Hid (St w noB [own (.slice (some ⟨g75, 0, none⟩) 64 64) 3 1 64 (ic (Pl.fl 0)), own (.slice D7 m7_ dc7) 3 1 m7_ (ic []), blk g62 5 [.int .u8 2, .int .u8 2, .int .u8 7, .int .u8 7, .int .u8 2], own (.slice D6 m6_ dc6) 3 1 m6_ (ic []), blk g50 5 [.int .u8 4, .int .u8 2, .int .u8 7, .int .u8 3, .int .u8 20], own (.slice D5 m5_ dc5) 3 1 m5_ (ic []), blk g38 5 [.int .u8 4, .int .u8 2, .int .u8 7, .int .u8 3], own (.slice D4 m4_ dc4) 3 1 m4_ (ic [7, 7, 3, 7]), blk g26 5 [.int .u8 4, .int .u8 2, .int .u8 7, .int .u8 3, .int .u8 4, .int .u8 99], blk g15 3 [.int .i64 9, .int .i64 8, .int .i64 7], blk g7 3 [.int .i64 7, .int .i64 7, .int .i64 3, .int .i64 7]] V77) := Lib.hid (S76.out.gr hv78)
  clear S76
  clear hv78
  refine ⟨rfl, hK _ _ ?_⟩
  clear hK
  go_upto_region 9 with fail
  refine wpG_region_k (fun K hK => ?_)
  refine wpG_val (some 78) rfl (by rfl) (fun W80 hg81 => ?_)
  refine makez_ex 22 3 (.int .i64 0) rfl 8 (.const (.int .i64 64)) (.const (.int .i64 64)) rfl Try.underlying22 (by kernel_rfl) 64 64 rfl rfl (by decide) (by decide) (by decide) W80 (S79.out.gr hg81) (fun g83 U82 hS_ => ?_)
  clear hg81
  simp only [n1, n3, n4]
  rw [show List.replicate 64 (.int .i64 0) = ic (Pl.fl 0) from (by rw [← Pl.fl_zero]; simp only [ic, List.map_replicate])] at hS_
  have S84 : Hid (St w noB [own (.slice (some ⟨g83, 0, none⟩) 64 64) 3 1 64 (ic (Pl.fl 0)), own (.slice (some ⟨g75, 0, none⟩) 64 64) 3 1 64 (ic (Pl.fl 0)), own (.slice D7 m7_ dc7) 3 1 m7_ (ic []), blk g62 5 [.int .u8 2, .int .u8 2, .int .u8 7, .int .u8 7, .int .u8 2], own (.slice D6 m6_ dc6) 3 1 m6_ (ic []), blk g50 5 [.int .u8 4, .int .u8 2, .int .u8 7, .int .u8 3, .int .u8 20], own (.slice D5 m5_ dc5) 3 1 m5_ (ic []), blk g38 5 [.int .u8 4, .int .u8 2, .int .u8 7, .int .u8 3], own (.slice D4 m4_ dc4) 3 1 m4_ (ic [7, 7, 3, 7]), blk g26 5 [.int .u8 4, .int .u8 2, .int .u8 7, .int .u8 3, .int .u8 4, .int .u8 99], blk g15 3 [.int .i64 9, .int .i64 8, .int .i64 7], blk g7 3 [.int .i64 7, .int .i64 7, .int .i64 3, .int .i64 7]] U82) := Lib.hid hS_
  clear S79
  clear hS_
  refine @wpG_p _ _ _ _ _ (some 20) (.slice (some ⟨g83, 0, none⟩) 64 64) _ _ rfl (by rfl) (fun _ => rfl) ?_
  simp only [n1, n3, n4]
  refine wpG_done (fun V85 hv86 => ?_)
  have S87 : Hid (St w noB [own (.slice (some ⟨g83, 0, none⟩) 64 64) 3 1 64 (ic (Pl.fl 0)), own (.slice (some ⟨g75, 0, none⟩) 64 64) 3 1 64 (ic (Pl.fl 0)), own (.slice D7 m7_ dc7) 3 1 m7_ (ic []), blk g62 5 [.int .u8 2, .int .u8 2, .int .u8 7, .int .u8 7, .int .u8 2], own (.slice D6 m6_ dc6) 3 1 m6_ (ic []), blk g50 5 [.int .u8 4, .int .u8 2, .int .u8 7, .int .u8 3, .int .u8 20], own (.slice D5 m5_ dc5) 3 1 m5_ (ic []), blk g38 5 [.int .u8 4, .int .u8 2, .int .u8 7, .int .u8 3], own (.slice D4 m4_ dc4) 3 1 m4_ (ic [7, 7, 3, 7]), blk g26 5 [.int .u8 4, .int .u8 2, .int .u8 7, .int .u8 3, .int .u8 4, .int .u8 99], blk g15 3 [.int .i64 9, .int .i64 8, .int .i64 7], blk g7 3 [.int .i64 7, .int .i64 7, .int .i64 3, .int .i64 7]] V85) := Lib.hid (S84.out.gr hv86)
  clear S84
  clear hv86
  refine ⟨rfl, hK _ _ ?_⟩
  clear hK
  go_upto_region 10 with fail
  refine wpG_region_k (fun K hK => ?_)
  refine @wpG_p _ _ _ _ _ (some 21) (.int .i64 0) _ _ rfl (by rfl) (fun _ => rfl) ?_
  simp only [n1, n3, n4]
  refine wpG_done (fun V88 hv89 => ?_)
  have S90 : Hid (St w noB [own (.slice (some ⟨g83, 0, none⟩) 64 64) 3 1 64 (ic (Pl.fl 0)), own (.slice (some ⟨g75, 0, none⟩) 64 64) 3 1 64 (ic (Pl.fl 0)), own (.slice D7 m7_ dc7) 3 1 m7_ (ic []), blk g62 5 [.int .u8 2, .int .u8 2, .int .u8 7, .int .u8 7, .int .u8 2], own (.slice D6 m6_ dc6) 3 1 m6_ (ic []), blk g50 5 [.int .u8 4, .int .u8 2, .int .u8 7, .int .u8 3, .int .u8 20], own (.slice D5 m5_ dc5) 3 1 m5_ (ic []), blk g38 5 [.int .u8 4, .int .u8 2, .int .u8 7, .int .u8 3], own (.slice D4 m4_ dc4) 3 1 m4_ (ic [7, 7, 3, 7]), blk g26 5 [.int .u8 4, .int .u8 2, .int .u8 7, .int .u8 3, .int .u8 4, .int .u8 99], blk g15 3 [.int .i64 9, .int .i64 8, .int .i64 7], blk g7 3 [.int .i64 7, .int .i64 7, .int .i64 3, .int .i64 7]] V88) := Lib.hid (S87.out.gr hv89)
  clear S87
  clear hv89
  refine ⟨rfl, hK _ _ ?_⟩
  clear hK
  go_wp2_with fail
  go_loopw [21] (fun v21 wr => ∃ (k : Nat), v21 = .int .i64 (k : Int) ∧ k ≤ 64 ∧ St w noB [own (.slice (some ⟨g83, 0, none⟩) 64 64) 3 1 64 (ic (Pl.fl k)), own (.slice (some ⟨g75, 0, none⟩) 64 64) 3 1 64 (ic (Pl.fl k)), own (.slice D7 m7_ dc7) 3 1 m7_ (ic []), blk g62 5 [.int .u8 2, .int .u8 2, .int .u8 7, .int .u8 7, .int .u8 2], own (.slice D6 m6_ dc6) 3 1 m6_ (ic []), blk g50 5 [.int .u8 4, .int .u8 2, .int .u8 7, .int .u8 3, .int .u8 20], own (.slice D5 m5_ dc5) 3 1 m5_ (ic []), blk g38 5 [.int .u8 4, .int .u8 2, .int .u8 7, .int .u8 3], own (.slice D4 m4_ dc4) 3 1 m4_ (ic [7, 7, 3, 7]), blk g26 5 [.int .u8 4, .int .u8 2, .int .u8 7, .int .u8 3, .int .u8 4, .int .u8 99], blk g15 3 [.int .i64 9, .int .i64 8, .int .i64 7], blk g7 3 [.int .i64 7, .int .i64 7, .int .i64 3, .int .i64 7]] wr) (fun i _ => 64 - (intOf i).toNat)
  case atStart => exact ⟨0, rfl, (by decide), S90.out⟩
  case round =>
    obtain ⟨k, rfl, hk64, hS⟩ := hrel
    have SL := Lib.hid hS
    clear S90 hS
    have S91 := SL
    clear SL
    go_upto_region 11 with fail
    refine wpG_region_k (fun K hK => ?_)
    refine @wpG_p _ _ _ _ _ (some 79) (.int .i64 (k : Int)) _ _ rfl (by rfl) (fun _ => rfl) ?_
    simp only [n1, n3, n4]
    refine @wpG_p _ _ _ _ _ (some 80) (.bool (decide ((k : Int) < 64))) _ _ rfl (by rfl) (fun W => op_int_lss W (k : Int) 64 rfl rfl rfl Try.underlying3) ?_
    simp only [n1, n3, n4]
    refine wpG_done (fun V92 hv93 => ?_)
    have S94 : Hid (St w noB [own (.slice (some ⟨g83, 0, none⟩) 64 64) 3 1 64 (ic (Pl.fl k)), own (.slice (some ⟨g75, 0, none⟩) 64 64) 3 1 64 (ic (Pl.fl k)), own (.slice D7 m7_ dc7) 3 1 m7_ (ic []), blk g62 5 [.int .u8 2, .int .u8 2, .int .u8 7, .int .u8 7, .int .u8 2], own (.slice D6 m6_ dc6) 3 1 m6_ (ic []), blk g50 5 [.int .u8 4, .int .u8 2, .int .u8 7, .int .u8 3, .int .u8 20], own (.slice D5 m5_ dc5) 3 1 m5_ (ic []), blk g38 5 [.int .u8 4, .int .u8 2, .int .u8 7, .int .u8 3], own (.slice D4 m4_ dc4) 3 1 m4_ (ic [7, 7, 3, 7]), blk g26 5 [.int .u8 4, .int .u8 2, .int .u8 7, .int .u8 3, .int .u8 4, .int .u8 99], blk g15 3 [.int .i64 9, .int .i64 8, .int .i64 7], blk g7 3 [.int .i64 7, .int .i64 7, .int .i64 3, .int .i64 7]] V92) := Lib.hid (S91.out.gr hv93)
    clear S91
    clear hv93
    refine ⟨rfl, hK _ _ ?_⟩
    clear hK
    obtain ⟨c95, hc95⟩ : ∃ q_, q_ = (decide ((k : Int) < 64)) := ⟨_, rfl⟩
    rw [← hc95]
    have Hc95 := Lib.hid hc95
    clear hc95
    cases c95 with
    | true =>
      have f96 := of_decide_eq_true Hc95.out.symm
      go_upto_region 13 with fail
      refine wpG_region_k (fun K hK => ?_)
      refine @wpG_p _ _ _ _ _ (some 83) (.slice (some ⟨g75, 0, none⟩) 64 64) _ _ rfl (by rfl) (fun _ => rfl) ?_
      simp only [n1, n3, n4]
      refine @wpG_p _ _ _ _ _ (some 84) (.int .i64 (k : Int)) _ _ rfl (by rfl) (fun _ => rfl) ?_
      simp only [n1, n3, n4]
      have hix_ : k < 64 := by omega
      refine @wpG_p _ _ _ _ _ (some 85) (.pointer (some ⟨g75, k, none⟩)) _ _ rfl (by rfl) (fun W => by (go_simp <;> first | rfl | omega | (simp; omega))) ?_
      simp only [n1, n3, n4]
      refine wpG_store (none) rfl (by rfl) (fun W97 hg98 => ⟨W97.setCell ⟨g75, k, none⟩ (.int .i64 1), by obtain ⟨⟨_, c⟩, c2⟩ := own_cell (k := k) ((S94.out.gr hg98).ownr 1 rfl) (by omega); go_simp, ?_⟩)
      simp only [n2]
      obtain ⟨U99, hu_, hS_⟩ := ((S94.out.gr hg98).ownPutAt 1 rfl (k := k) (by omega) (.int .i64 1)).named
      rw [← hu_]
      have hS2_ : St w noB [own (.slice (some ⟨g83, 0, none⟩) 64 64) 3 1 64 (ic (Pl.fl k)), own (.slice (some ⟨g75, 0, none⟩) 64 64) 3 1 64 (ic ((Pl.fl k).set k 1)), own (.slice D7 m7_ dc7) 3 1 m7_ (ic []), blk g62 5 [.int .u8 2, .int .u8 2, .int .u8 7, .int .u8 7, .int .u8 2], own (.slice D6 m6_ dc6) 3 1 m6_ (ic []), blk g50 5 [.int .u8 4, .int .u8 2, .int .u8 7, .int .u8 3, .int .u8 20], own (.slice D5 m5_ dc5) 3 1 m5_ (ic []), blk g38 5 [.int .u8 4, .int .u8 2, .int .u8 7, .int .u8 3], own (.slice D4 m4_ dc4) 3 1 m4_ (ic [7, 7, 3, 7]), blk g26 5 [.int .u8 4, .int .u8 2, .int .u8 7, .int .u8 3, .int .u8 4, .int .u8 99], blk g15 3 [.int .i64 9, .int .i64 8, .int .i64 7], blk g7 3 [.int .i64 7, .int .i64 7, .int .i64 3, .int .i64 7]] U99 := by have h_ := hS_; rw [show (ic (Pl.fl k)).set k (.int .i64 1) = ic ((Pl.fl k).set k 1) from ic_set _ _ _] at h_; exact h_
      clear hS_
      have hS_ := hS2_
      clear hS2_
      have S100 : Hid (St w noB [own (.slice (some ⟨g83, 0, none⟩) 64 64) 3 1 64 (ic (Pl.fl k)), own (.slice (some ⟨g75, 0, none⟩) 64 64) 3 1 64 (ic ((Pl.fl k).set k 1)), own (.slice D7 m7_ dc7) 3 1 m7_ (ic []), blk g62 5 [.int .u8 2, .int .u8 2, .int .u8 7, .int .u8 7, .int .u8 2], own (.slice D6 m6_ dc6) 3 1 m6_ (ic []), blk g50 5 [.int .u8 4, .int .u8 2, .int .u8 7, .int .u8 3, .int .u8 20], own (.slice D5 m5_ dc5) 3 1 m5_ (ic []), blk g38 5 [.int .u8 4, .int .u8 2, .int .u8 7, .int .u8 3], own (.slice D4 m4_ dc4) 3 1 m4_ (ic [7, 7, 3, 7]), blk g26 5 [.int .u8 4, .int .u8 2, .int .u8 7, .int .u8 3, .int .u8 4, .int .u8 99], blk g15 3 [.int .i64 9, .int .i64 8, .int .i64 7], blk g7 3 [.int .i64 7, .int .i64 7, .int .i64 3, .int .i64 7]] U99) := Lib.hid hS_
      clear S94
      clear hu_ hS_ hg98
      refine wpG_done (fun V101 hv102 => ?_)
      have S103 : Hid (St w noB [own (.slice (some ⟨g83, 0, none⟩) 64 64) 3 1 64 (ic (Pl.fl k)), own (.slice (some ⟨g75, 0, none⟩) 64 64) 3 1 64 (ic ((Pl.fl k).set k 1)), own (.slice D7 m7_ dc7) 3 1 m7_ (ic []), blk g62 5 [.int .u8 2, .int .u8 2, .int .u8 7, .int .u8 7, .int .u8 2], own (.slice D6 m6_ dc6) 3 1 m6_ (ic []), blk g50 5 [.int .u8 4, .int .u8 2, .int .u8 7, .int .u8 3, .int .u8 20], own (.slice D5 m5_ dc5) 3 1 m5_ (ic []), blk g38 5 [.int .u8 4, .int .u8 2, .int .u8 7, .int .u8 3], own (.slice D4 m4_ dc4) 3 1 m4_ (ic [7, 7, 3, 7]), blk g26 5 [.int .u8 4, .int .u8 2, .int .u8 7, .int .u8 3, .int .u8 4, .int .u8 99], blk g15 3 [.int .i64 9, .int .i64 8, .int .i64 7], blk g7 3 [.int .i64 7, .int .i64 7, .int .i64 3, .int .i64 7]] V101) := Lib.hid (S100.out.gr hv102)
      clear S100
      clear hv102
      refine ⟨rfl, hK _ _ ?_⟩
      clear hK
      go_upto_region 14 with fail
      refine wpG_region_k (fun K hK => ?_)
      refine @wpG_p _ _ _ _ _ (some 86) (.slice (some ⟨g83, 0, none⟩) 64 64) _ _ rfl (by rfl) (fun _ => rfl) ?_
      simp only [n1, n3, n4]
      refine @wpG_p _ _ _ _ _ (some 87) (.int .i64 (k : Int)) _ _ rfl (by rfl) (fun _ => rfl) ?_
      simp only [n1, n3, n4]
      have hix_ : k < 64 := by omega
      refine @wpG_p _ _ _ _ _ (some 88) (.pointer (some ⟨g83, k, none⟩)) _ _ rfl (by rfl) (fun W => by (go_simp <;> first | rfl | omega | (simp; omega))) ?_
      simp only [n1, n3, n4]
      refine wpG_store (none) rfl (by rfl) (fun W104 hg105 => ⟨W104.setCell ⟨g83, k, none⟩ (.int .i64 1), by obtain ⟨⟨_, c⟩, c2⟩ := own_cell (k := k) ((S103.out.gr hg105).ownr 0 rfl) (by omega); go_simp, ?_⟩)
      simp only [n2]
      obtain ⟨U106, hu_, hS_⟩ := ((S103.out.gr hg105).ownPutAt 0 rfl (k := k) (by omega) (.int .i64 1)).named
      rw [← hu_]
      have hS2_ : St w noB [own (.slice (some ⟨g83, 0, none⟩) 64 64) 3 1 64 (ic ((Pl.fl k).set k 1)), own (.slice (some ⟨g75, 0, none⟩) 64 64) 3 1 64 (ic ((Pl.fl k).set k 1)), own (.slice D7 m7_ dc7) 3 1 m7_ (ic []), blk g62 5 [.int .u8 2, .int .u8 2, .int .u8 7, .int .u8 7, .int .u8 2], own (.slice D6 m6_ dc6) 3 1 m6_ (ic []), blk g50 5 [.int .u8 4, .int .u8 2, .int .u8 7, .int .u8 3, .int .u8 20], own (.slice D5 m5_ dc5) 3 1 m5_ (ic []), blk g38 5 [.int .u8 4, .int .u8 2, .int .u8 7, .int .u8 3], own (.slice D4 m4_ dc4) 3 1 m4_ (ic [7, 7, 3, 7]), blk g26 5 [.int .u8 4, .int .u8 2, .int .u8 7, .int .u8 3, .int .u8 4, .int .u8 99], blk g15 3 [.int .i64 9, .int .i64 8, .int .i64 7], blk g7 3 [.int .i64 7, .int .i64 7, .int .i64 3, .int .i64 7]] U106 := by have h_ := hS_; rw [show (ic (Pl.fl k)).set k (.int .i64 1) = ic ((Pl.fl k).set k 1) from ic_set _ _ _] at h_; exact h_
      clear hS_
      have hS_ := hS2_
      clear hS2_
      have S107 : Hid (St w noB [own (.slice (some ⟨g83, 0, none⟩) 64 64) 3 1 64 (ic ((Pl.fl k).set k 1)), own (.slice (some ⟨g75, 0, none⟩) 64 64) 3 1 64 (ic ((Pl.fl k).set k 1)), own (.slice D7 m7_ dc7) 3 1 m7_ (ic []), blk g62 5 [.int .u8 2, .int .u8 2, .int .u8 7, .int .u8 7, .int .u8 2], own (.slice D6 m6_ dc6) 3 1 m6_ (ic []), blk g50 5 [.int .u8 4, .int .u8 2, .int .u8 7, .int .u8 3, .int .u8 20], own (.slice D5 m5_ dc5) 3 1 m5_ (ic []), blk g38 5 [.int .u8 4, .int .u8 2, .int .u8 7, .int .u8 3], own (.slice D4 m4_ dc4) 3 1 m4_ (ic [7, 7, 3, 7]), blk g26 5 [.int .u8 4, .int .u8 2, .int .u8 7, .int .u8 3, .int .u8 4, .int .u8 99], blk g15 3 [.int .i64 9, .int .i64 8, .int .i64 7], blk g7 3 [.int .i64 7, .int .i64 7, .int .i64 3, .int .i64 7]] U106) := Lib.hid hS_
      clear S103
      clear hu_ hS_ hg105
      refine wpG_done (fun V108 hv109 => ?_)
      have S110 : Hid (St w noB [own (.slice (some ⟨g83, 0, none⟩) 64 64) 3 1 64 (ic ((Pl.fl k).set k 1)), own (.slice (some ⟨g75, 0, none⟩) 64 64) 3 1 64 (ic ((Pl.fl k).set k 1)), own (.slice D7 m7_ dc7) 3 1 m7_ (ic []), blk g62 5 [.int .u8 2, .int .u8 2, .int .u8 7, .int .u8 7, .int .u8 2], own (.slice D6 m6_ dc6) 3 1 m6_ (ic []), blk g50 5 [.int .u8 4, .int .u8 2, .int .u8 7, .int .u8 3, .int .u8 20], own (.slice D5 m5_ dc5) 3 1 m5_ (ic []), blk g38 5 [.int .u8 4, .int .u8 2, .int .u8 7, .int .u8 3], own (.slice D4 m4_ dc4) 3 1 m4_ (ic [7, 7, 3, 7]), blk g26 5 [.int .u8 4, .int .u8 2, .int .u8 7, .int .u8 3, .int .u8 4, .int .u8 99], blk g15 3 [.int .i64 9, .int .i64 8, .int .i64 7], blk g7 3 [.int .i64 7, .int .i64 7, .int .i64 3, .int .i64 7]] V108) := Lib.hid (S107.out.gr hv109)
      clear S107
      clear hv109
      refine ⟨rfl, hK _ _ ?_⟩
      clear hK
      go_upto_region 12 with fail
      refine wpG_region_k (fun K hK => ?_)
      refine @wpG_p _ _ _ _ _ (some 81) (.int .i64 (k : Int)) _ _ rfl (by rfl) (fun _ => rfl) ?_
      simp only [n1, n3, n4]
      refine @wpG_p _ _ _ _ _ (some 82) (.int .i64 ((k : Int) + 1)) _ _ rfl (by rfl) (fun W => op_i_add W (k : Int) 1 (by omega) rfl rfl rfl Try.underlying3) ?_
      simp only [n1, n3, n4]
      refine @wpG_p _ _ _ _ _ (some 21) (.int .i64 ((k : Int) + 1)) _ _ rfl (by rfl) (fun _ => rfl) ?_
      simp only [n1, n3, n4]
      refine wpG_done (fun V111 hv112 => ?_)
      have S113 : Hid (St w noB [own (.slice (some ⟨g83, 0, none⟩) 64 64) 3 1 64 (ic ((Pl.fl k).set k 1)), own (.slice (some ⟨g75, 0, none⟩) 64 64) 3 1 64 (ic ((Pl.fl k).set k 1)), own (.slice D7 m7_ dc7) 3 1 m7_ (ic []), blk g62 5 [.int .u8 2, .int .u8 2, .int .u8 7, .int .u8 7, .int .u8 2], own (.slice D6 m6_ dc6) 3 1 m6_ (ic []), blk g50 5 [.int .u8 4, .int .u8 2, .int .u8 7, .int .u8 3, .int .u8 20], own (.slice D5 m5_ dc5) 3 1 m5_ (ic []), blk g38 5 [.int .u8 4, .int .u8 2, .int .u8 7, .int .u8 3], own (.slice D4 m4_ dc4) 3 1 m4_ (ic [7, 7, 3, 7]), blk g26 5 [.int .u8 4, .int .u8 2, .int .u8 7, .int .u8 3, .int .u8 4, .int .u8 99], blk g15 3 [.int .i64 9, .int .i64 8, .int .i64 7], blk g7 3 [.int .i64 7, .int .i64 7, .int .i64 3, .int .i64 7]] V111) := Lib.hid (S110.out.gr hv112)
      clear S110
      clear hv112
      refine ⟨rfl, hK _ _ ?_⟩
      clear hK
      go_wp2_with fail
      go_roundw
      case rel => exact ⟨k + 1, (by first | rfl | go_num), (by omega), (by rw [← Pl.fl_set (by omega)]; exact S113.out)⟩
      case measure => first | (simp only [intOf]; omega) | (simp [intOf]; done) | (simp [intOf]; omega) | omega
    | false =>
      have f114 := of_decide_eq_false Hc95.out.symm
      go_upto_region 15 with fail
      refine wpG_region_k (fun K hK => ?_)
      have hk_ : k = 64 := by omega
      have S115 : Hid (St w noB [own (.slice (some ⟨g83, 0, none⟩) 64 64) 3 1 64 (ic (Pl.fl 64)), own (.slice (some ⟨g75, 0, none⟩) 64 64) 3 1 64 (ic (Pl.fl 64)), own (.slice D7 m7_ dc7) 3 1 m7_ (ic []), blk g62 5 [.int .u8 2, .int .u8 2, .int .u8 7, .int .u8 7, .int .u8 2], own (.slice D6 m6_ dc6) 3 1 m6_ (ic []), blk g50 5 [.int .u8 4, .int .u8 2, .int .u8 7, .int .u8 3, .int .u8 20], own (.slice D5 m5_ dc5) 3 1 m5_ (ic []), blk g38 5 [.int .u8 4, .int .u8 2, .int .u8 7, .int .u8 3], own (.slice D4 m4_ dc4) 3 1 m4_ (ic [7, 7, 3, 7]), blk g26 5 [.int .u8 4, .int .u8 2, .int .u8 7, .int .u8 3, .int .u8 4, .int .u8 99], blk g15 3 [.int .i64 9, .int .i64 8, .int .i64 7], blk g7 3 [.int .i64 7, .int .i64 7, .int .i64 3, .int .i64 7]] V92) := Lib.hid (by have h_ := S94.out; rw [hk_] at h_; exact h_)
      clear S94
      clear hk_
      refine @wpG_p _ _ _ _ _ (some 89) (.slice (some ⟨g83, 0, none⟩) 64 64) _ _ rfl (by rfl) (fun _ => rfl) ?_
      simp only [n1, n3, n4]
      have hix_ : 9 < 64 := by omega
      refine @wpG_p _ _ _ _ _ (some 90) (.pointer (some ⟨g83, 9, none⟩)) _ _ rfl (by rfl) (fun W => by (go_simp <;> first | rfl | omega | (simp; omega))) ?_
      simp only [n1, n3, n4]
      refine wpG_store (none) rfl (by rfl) (fun W116 hg117 => ⟨W116.setCell ⟨g83, 9, none⟩ (.int .i64 6), by obtain ⟨⟨_, c⟩, c2⟩ := own_cell (k := 9) ((S115.out.gr hg117).ownr 0 rfl) (by omega); go_simp, ?_⟩)
      simp only [n2]
      obtain ⟨U118, hu_, hS_⟩ := ((S115.out.gr hg117).ownPutAt 0 rfl (k := 9) (by omega) (.int .i64 6)).named
      rw [← hu_]
      have hS2_ : St w noB [own (.slice (some ⟨g83, 0, none⟩) 64 64) 3 1 64 (ic ((Pl.fl 64).set 9 6)), own (.slice (some ⟨g75, 0, none⟩) 64 64) 3 1 64 (ic (Pl.fl 64)), own (.slice D7 m7_ dc7) 3 1 m7_ (ic []), blk g62 5 [.int .u8 2, .int .u8 2, .int .u8 7, .int .u8 7, .int .u8 2], own (.slice D6 m6_ dc6) 3 1 m6_ (ic []), blk g50 5 [.int .u8 4, .int .u8 2, .int .u8 7, .int .u8 3, .int .u8 20], own (.slice D5 m5_ dc5) 3 1 m5_ (ic []), blk g38 5 [.int .u8 4, .int .u8 2, .int .u8 7, .int .u8 3], own (.slice D4 m4_ dc4) 3 1 m4_ (ic [7, 7, 3, 7]), blk g26 5 [.int .u8 4, .int .u8 2, .int .u8 7, .int .u8 3, .int .u8 4, .int .u8 99], blk g15 3 [.int .i64 9, .int .i64 8, .int .i64 7], blk g7 3 [.int .i64 7, .int .i64 7, .int .i64 3, .int .i64 7]] U118 := by have h_ := hS_; rw [show (ic (Pl.fl 64)).set 9 (.int .i64 6) = ic ((Pl.fl 64).set 9 6) from ic_set _ _ _] at h_; exact h_
      clear hS_
      have hS_ := hS2_
      clear hS2_
      have S119 : Hid (St w noB [own (.slice (some ⟨g83, 0, none⟩) 64 64) 3 1 64 (ic ((Pl.fl 64).set 9 6)), own (.slice (some ⟨g75, 0, none⟩) 64 64) 3 1 64 (ic (Pl.fl 64)), own (.slice D7 m7_ dc7) 3 1 m7_ (ic []), blk g62 5 [.int .u8 2, .int .u8 2, .int .u8 7, .int .u8 7, .int .u8 2], own (.slice D6 m6_ dc6) 3 1 m6_ (ic []), blk g50 5 [.int .u8 4, .int .u8 2, .int .u8 7, .int .u8 3, .int .u8 20], own (.slice D5 m5_ dc5) 3 1 m5_ (ic []), blk g38 5 [.int .u8 4, .int .u8 2, .int .u8 7, .int .u8 3], own (.slice D4 m4_ dc4) 3 1 m4_ (ic [7, 7, 3, 7]), blk g26 5 [.int .u8 4, .int .u8 2, .int .u8 7, .int .u8 3, .int .u8 4, .int .u8 99], blk g15 3 [.int .i64 9, .int .i64 8, .int .i64 7], blk g7 3 [.int .i64 7, .int .i64 7, .int .i64 3, .int .i64 7]] U118) := Lib.hid hS_
      clear S115
      clear hu_ hS_ hg117
      refine wpG_done (fun V120 hv121 => ?_)
      have S122 : Hid (St w noB [own (.slice (some ⟨g83, 0, none⟩) 64 64) 3 1 64 (ic ((Pl.fl 64).set 9 6)), own (.slice (some ⟨g75, 0, none⟩) 64 64) 3 1 64 (ic (Pl.fl 64)), own (.slice D7 m7_ dc7) 3 1 m7_ (ic []), blk g62 5 [.int .u8 2, .int .u8 2, .int .u8 7, .int .u8 7, .int .u8 2], own (.slice D6 m6_ dc6) 3 1 m6_ (ic []), blk g50 5 [.int .u8 4, .int .u8 2, .int .u8 7, .int .u8 3, .int .u8 20], own (.slice D5 m5_ dc5) 3 1 m5_ (ic []), blk g38 5 [.int .u8 4, .int .u8 2, .int .u8 7, .int .u8 3], own (.slice D4 m4_ dc4) 3 1 m4_ (ic [7, 7, 3, 7]), blk g26 5 [.int .u8 4, .int .u8 2, .int .u8 7, .int .u8 3, .int .u8 4, .int .u8 99], blk g15 3 [.int .i64 9, .int .i64 8, .int .i64 7], blk g7 3 [.int .i64 7, .int .i64 7, .int .i64 3, .int .i64 7]] V120) := Lib.hid (S119.out.gr hv121)
      clear S119
      clear hv121
      refine ⟨rfl, hK _ _ ?_⟩
      clear hK
      go_upto_region 16 with fail
      refine wpG_region_k (fun K hK => ?_)
      have S123 : Hid (St w noB [own (.slice (some ⟨g83, 0, none⟩) 64 64) 3 1 64 (ic Pl.sNew), own (.slice (some ⟨g75, 0, none⟩) 64 64) 3 1 64 (ic (Pl.fl 64)), own (.slice D7 m7_ dc7) 3 1 m7_ (ic []), blk g62 5 [.int .u8 2, .int .u8 2, .int .u8 7, .int .u8 7, .int .u8 2], own (.slice D6 m6_ dc6) 3 1 m6_ (ic []), blk g50 5 [.int .u8 4, .int .u8 2, .int .u8 7, .int .u8 3, .int .u8 20], own (.slice D5 m5_ dc5) 3 1 m5_ (ic []), blk g38 5 [.int .u8 4, .int .u8 2, .int .u8 7, .int .u8 3], own (.slice D4 m4_ dc4) 3 1 m4_ (ic [7, 7, 3, 7]), blk g26 5 [.int .u8 4, .int .u8 2, .int .u8 7, .int .u8 3, .int .u8 4, .int .u8 99], blk g15 3 [.int .i64 9, .int .i64 8, .int .i64 7], blk g7 3 [.int .i64 7, .int .i64 7, .int .i64 3, .int .i64 7]] V120) := Lib.hid (by have h_ := S122.out; rw [show ic ((Pl.fl 64).set 9 6) = ic Pl.sNew from (by rw [Pl.fl_new])] at h_; exact h_)
      clear S122
      have S124 : Hid (St w noB [own (.slice (some ⟨g83, 0, none⟩) 64 64) 3 1 64 (ic Pl.sNew), own (.slice (some ⟨g75, 0, none⟩) 64 64) 3 1 64 (ic Pl.sOld), own (.slice D7 m7_ dc7) 3 1 m7_ (ic []), blk g62 5 [.int .u8 2, .int .u8 2, .int .u8 7, .int .u8 7, .int .u8 2], own (.slice D6 m6_ dc6) 3 1 m6_ (ic []), blk g50 5 [.int .u8 4, .int .u8 2, .int .u8 7, .int .u8 3, .int .u8 20], own (.slice D5 m5_ dc5) 3 1 m5_ (ic []), blk g38 5 [.int .u8 4, .int .u8 2, .int .u8 7, .int .u8 3], own (.slice D4 m4_ dc4) 3 1 m4_ (ic [7, 7, 3, 7]), blk g26 5 [.int .u8 4, .int .u8 2, .int .u8 7, .int .u8 3, .int .u8 4, .int .u8 99], blk g15 3 [.int .i64 9, .int .i64 8, .int .i64 7], blk g7 3 [.int .i64 7, .int .i64 7, .int .i64 3, .int .i64 7]] V120) := Lib.hid (by have h_ := S123.out; rw [show ic (Pl.fl 64) = ic Pl.sOld from (by rw [Pl.fl_old])] at h_; exact h_)
      clear S123
      refine @wpG_p _ _ _ _ _ (some 92) (.slice (some ⟨g75, 0, none⟩) 64 64) _ _ rfl (by rfl) (fun _ => rfl) ?_
      simp only [n1, n3, n4]
      refine @wpG_p _ _ _ _ _ (some 93) (.slice (some ⟨g83, 0, none⟩) 64 64) _ _ rfl (by rfl) (fun _ => rfl) ?_
      simp only [n1, n3, n4]
      refine @wpG_tk _ _ _ _ _ (some 94) (.tuple #[.string (bstr [0, 2, 0, 0, 0, 0, 0, 0, 1, 1, 6]), .int .i64 0]) _ _ rfl (.call (f := 22) (args := #[.slice (some ⟨g75, 0, none⟩) 64 64, .slice (some ⟨g83, 0, none⟩) 64 64]) (by rfl) (fun W => by go_simp) (fun W hg => ((delta_any _ _ _ Pl.sOld _ _ _ Pl.sNew W (SL.ofOwn ((S124.out.gr hg).ownr 1 rfl)) (SL.ofOwn ((S124.out.gr hg).ownr 0 rfl)) (by decide) (by decide)).mono (fun e w' h => ⟨h.1.trans (by rw [sn_8.1, sn_8.2]), h.2⟩)))) ?_
      simp only [n1, n3, n4]
      refine @wpG_p _ _ _ _ _ (some 91) (.tuple #[.string (bstr [0, 2, 0, 0, 0, 0, 0, 0, 1, 1, 6]), .int .i64 0]) _ _ rfl (by rfl) (fun _ => rfl) ?_
      simp only [n1, n3, n4]
      refine @wpG_p _ _ _ _ _ (some 95) (.string (bstr [0, 2, 0, 0, 0, 0, 0, 0, 1, 1, 6])) _ _ rfl (by rfl) (fun W => by go_simp) ?_
      simp only [n1, n3, n4]
      refine @wpG_p _ _ _ _ _ (some 96) (.int .i64 0) _ _ rfl (by rfl) (fun W => by go_simp) ?_
      simp only [n1, n3, n4]
      refine @wpG_p _ _ _ _ _ (some 22) (.string (bstr [0, 2, 0, 0, 0, 0, 0, 0, 1, 1, 6])) _ _ rfl (by rfl) (fun _ => rfl) ?_
      simp only [n1, n3, n4]
      refine @wpG_p _ _ _ _ _ (some 23) (.int .i64 0) _ _ rfl (by rfl) (fun _ => rfl) ?_
      simp only [n1, n3, n4]
      refine wpG_done (fun V125 hv126 => ?_)
      have S127 : Hid (St w noB [own (.slice (some ⟨g83, 0, none⟩) 64 64) 3 1 64 (ic Pl.sNew), own (.slice (some ⟨g75, 0, none⟩) 64 64) 3 1 64 (ic Pl.sOld), own (.slice D7 m7_ dc7) 3 1 m7_ (ic []), blk g62 5 [.int .u8 2, .int .u8 2, .int .u8 7, .int .u8 7, .int .u8 2], own (.slice D6 m6_ dc6) 3 1 m6_ (ic []), blk g50 5 [.int .u8 4, .int .u8 2, .int .u8 7, .int .u8 3, .int .u8 20], own (.slice D5 m5_ dc5) 3 1 m5_ (ic []), blk g38 5 [.int .u8 4, .int .u8 2, .int .u8 7, .int .u8 3], own (.slice D4 m4_ dc4) 3 1 m4_ (ic [7, 7, 3, 7]), blk g26 5 [.int .u8 4, .int .u8 2, .int .u8 7, .int .u8 3, .int .u8 4, .int .u8 99], blk g15 3 [.int .i64 9, .int .i64 8, .int .i64 7], blk g7 3 [.int .i64 7, .int .i64 7, .int .i64 3, .int .i64 7]] V125) := Lib.hid (S124.out.gr hv126)
      clear S124
      clear hv126
      refine ⟨rfl, hK _ _ ?_⟩
      clear hK
      go_upto_region 17 with fail
      refine wpG_region_k (fun K hK => ?_)
      refine @wpG_p _ _ _ _ _ (some 98) (.slice (some ⟨g75, 0, none⟩) 64 64) _ _ rfl (by rfl) (fun _ => rfl) ?_
      simp only [n1, n3, n4]
      refine @wpG_p _ _ _ _ _ (some 99) (.string (bstr [0, 2, 0, 0, 0, 0, 0, 0, 1, 1, 6])) _ _ rfl (by rfl) (fun _ => rfl) ?_
      simp only [n1, n3, n4]
      refine wpG_call (some 100) 24 #[.slice (some ⟨g75, 0, none⟩) 64 64, .string (bstr [0, 2, 0, 0, 0, 0, 0, 0, 1, 1, 6])] rfl (by rfl) (fun W => by go_simp) (fun W128 hg129 => ?_)
      refine (patch_c _ _ _ Pl.sOld [0, 2, 0, 0, 0, 0, 0, 0, 1, 1, 6] Pl.sNew 0 W128 (SL.ofOwn ((S127.out.gr hg129).ownr 1 rfl)) sn_9 (by decide) (by decide)).mono ?_
      rintro e w130 ⟨DP, mP_, dcP, rfl, hS_⟩
      refine ⟨_, rfl, ?_⟩
      have hT_ := (S127.out.gr hg129).got hS_
      simp only [n1, n3, n4]
      have S131 : Hid (St w noB [own (.slice DP mP_ dcP) 3 1 mP_ (ic Pl.sNew), own (.slice (some ⟨g83, 0, none⟩) 64 64) 3 1 64 (ic Pl.sNew), own (.slice (some ⟨g75, 0, none⟩) 64 64) 3 1 64 (ic Pl.sOld), own (.slice D7 m7_ dc7) 3 1 m7_ (ic []), blk g62 5 [.int .u8 2, .int .u8 2, .int .u8 7, .int .u8 7, .int .u8 2], own (.slice D6 m6_ dc6) 3 1 m6_ (ic []), blk g50 5 [.int .u8 4, .int .u8 2, .int .u8 7, .int .u8 3, .int .u8 20], own (.slice D5 m5_ dc5) 3 1 m5_ (ic []), blk g38 5 [.int .u8 4, .int .u8 2, .int .u8 7, .int .u8 3], own (.slice D4 m4_ dc4) 3 1 m4_ (ic [7, 7, 3, 7]), blk g26 5 [.int .u8 4, .int .u8 2, .int .u8 7, .int .u8 3, .int .u8 4, .int .u8 99], blk g15 3 [.int .i64 9, .int .i64 8, .int .i64 7], blk g7 3 [.int .i64 7, .int .i64 7, .int .i64 3, .int .i64 7]] w130) := Lib.hid hT_
      clear S127
      clear hT_ hS_ hg129
      refine @wpG_p _ _ _ _ _ (some 97) (.tuple #[.slice DP mP_ dcP, .int .i64 0]) _ _ rfl (by rfl) (fun _ => rfl) ?_
      simp only [n1, n3, n4]
      refine @wpG_p _ _ _ _ _ (some 101) (.slice DP mP_ dcP) _ _ rfl (by rfl) (fun W => by go_simp) ?_
      simp only [n1, n3, n4]
      refine @wpG_p _ _ _ _ _ (some 102) (.int .i64 0) _ _ rfl (by rfl) (fun W => by go_simp) ?_
      simp only [n1, n3, n4]
      refine @wpG_p _ _ _ _ _ (some 24) (.slice DP mP_ dcP) _ _ rfl (by rfl) (fun _ => rfl) ?_
      simp only [n1, n3, n4]
      refine @wpG_p _ _ _ _ _ (some 25) (.int .i64 0) _ _ rfl (by rfl) (fun _ => rfl) ?_
      simp only [n1, n3, n4]
      refine wpG_done (fun V132 hv133 => ?_)
      have S134 : Hid (St w noB [own (.slice DP mP_ dcP) 3 1 mP_ (ic Pl.sNew), own (.slice (some ⟨g83, 0, none⟩) 64 64) 3 1 64 (ic Pl.sNew), own (.slice (some ⟨g75, 0, none⟩) 64 64) 3 1 64 (ic Pl.sOld), own (.slice D7 m7_ dc7) 3 1 m7_ (ic []), blk g62 5 [.int .u8 2, .int .u8 2, .int .u8 7, .int .u8 7, .int .u8 2], own (.slice D6 m6_ dc6) 3 1 m6_ (ic []), blk g50 5 [.int .u8 4, .int .u8 2, .int .u8 7, .int .u8 3, .int .u8 20], own (.slice D5 m5_ dc5) 3 1 m5_ (ic []), blk g38 5 [.int .u8 4, .int .u8 2, .int .u8 7, .int .u8 3], own (.slice D4 m4_ dc4) 3 1 m4_ (ic [7, 7, 3, 7]), blk g26 5 [.int .u8 4, .int .u8 2, .int .u8 7, .int .u8 3, .int .u8 4, .int .u8 99], blk g15 3 [.int .i64 9, .int .i64 8, .int .i64 7], blk g7 3 [.int .i64 7, .int .i64 7, .int .i64 3, .int .i64 7]] V132) := Lib.hid (S131.out.gr hv133)
      clear S131
      clear hv133
      refine ⟨rfl, hK _ _ ?_⟩
      clear hK
      go_upto_region 18 with fail
      refine wpG_region_k (fun K hK => ?_)
      refine @wpG_p _ _ _ _ _ (some 104) (.slice (some ⟨g83, 0, none⟩) 64 64) _ _ rfl (by rfl) (fun _ => rfl) ?_
      simp only [n1, n3, n4]
      refine @wpG_tk _ _ _ _ _ (some 105) (.tuple #[.string (bstr [64, 2, 1, 6, 0, 2, 0, 0, 0, 0, 0, 0]), .int .i64 0]) _ _ rfl (.call (f := 16) (args := #[.slice (some ⟨g83, 0, none⟩) 64 64]) (by rfl) (fun W => by go_simp) (fun W hg => ((encode_any _ _ _ Pl.sNew W (SL.ofOwn ((S134.out.gr hg).ownr 1 rfl)) (by decide)).mono (fun e w' h => ⟨h.1.trans (by rw [sn_10.1, sn_10.2]), h.2⟩)))) ?_
      simp only [n1, n3, n4]
      refine @wpG_p _ _ _ _ _ (some 103) (.tuple #[.string (bstr [64, 2, 1, 6, 0, 2, 0, 0, 0, 0, 0, 0]), .int .i64 0]) _ _ rfl (by rfl) (fun _ => rfl) ?_
      simp only [n1, n3, n4]
      refine @wpG_p _ _ _ _ _ (some 106) (.string (bstr [64, 2, 1, 6, 0, 2, 0, 0, 0, 0, 0, 0])) _ _ rfl (by rfl) (fun W => by go_simp) ?_
      simp only [n1, n3, n4]
      refine @wpG_p _ _ _ _ _ (some 107) (.int .i64 0) _ _ rfl (by rfl) (fun W => by go_simp) ?_
      simp only [n1, n3, n4]
      refine @wpG_p _ _ _ _ _ (some 26) (.string (bstr [64, 2, 1, 6, 0, 2, 0, 0, 0, 0, 0, 0])) _ _ rfl (by rfl) (fun _ => rfl) ?_
      simp only [n1, n3, n4]
      refine @wpG_p _ _ _ _ _ (some 27) (.int .i64 0) _ _ rfl (by rfl) (fun _ => rfl) ?_
      simp only [n1, n3, n4]
      refine wpG_done (fun V135 hv136 => ?_)
      have S137 : Hid (St w noB [own (.slice DP mP_ dcP) 3 1 mP_ (ic Pl.sNew), own (.slice (some ⟨g83, 0, none⟩) 64 64) 3 1 64 (ic Pl.sNew), own (.slice (some ⟨g75, 0, none⟩) 64 64) 3 1 64 (ic Pl.sOld), own (.slice D7 m7_ dc7) 3 1 m7_ (ic []), blk g62 5 [.int .u8 2, .int .u8 2, .int .u8 7, .int .u8 7, .int .u8 2], own (.slice D6 m6_ dc6) 3 1 m6_ (ic []), blk g50 5 [.int .u8 4, .int .u8 2, .int .u8 7, .int .u8 3, .int .u8 20], own (.slice D5 m5_ dc5) 3 1 m5_ (ic []), blk g38 5 [.int .u8 4, .int .u8 2, .int .u8 7, .int .u8 3], own (.slice D4 m4_ dc4) 3 1 m4_ (ic [7, 7, 3, 7]), blk g26 5 [.int .u8 4, .int .u8 2, .int .u8 7, .int .u8 3, .int .u8 4, .int .u8 99], blk g15 3 [.int .i64 9, .int .i64 8, .int .i64 7], blk g7 3 [.int .i64 7, .int .i64 7, .int .i64 3, .int .i64 7]] V135) := Lib.hid (S134.out.gr hv136)
      clear S134
      clear hv136
      refine ⟨rfl, hK _ _ ?_⟩
      clear hK
      go_upto_region 19 with fail
      refine wpG_region_k (fun K hK => ?_)
      refine @wpG_p _ _ _ _ _ (some 109) (.string (bstr [64, 2, 1, 6, 0, 2, 0, 0, 0, 0, 0, 0])) _ _ rfl (by rfl) (fun _ => rfl) ?_
      simp only [n1, n3, n4]
      refine wpG_call (some 110) 18 #[.string (bstr [64, 2, 1, 6, 0, 2, 0, 0, 0, 0, 0, 0])] rfl (by rfl) (fun W => by go_simp) (fun W138 hg139 => ?_)
      refine (decode_c [64, 2, 1, 6, 0, 2, 0, 0, 0, 0, 0, 0] Pl.sNew 0 W138 sn_11 (by decide)).mono ?_
      rintro e w140 ⟨D11, m11_, dc11, rfl, hS_⟩
      refine ⟨_, rfl, ?_⟩
      have hT_ := (S137.out.gr hg139).got hS_
      simp only [n1, n3, n4]
      have S141 : Hid (St w noB [own (.slice D11 m11_ dc11) 3 1 m11_ (ic Pl.sNew), own (.slice DP mP_ dcP) 3 1 mP_ (ic Pl.sNew), own (.slice (some ⟨g83, 0, none⟩) 64 64) 3 1 64 (ic Pl.sNew), own (.slice (some ⟨g75, 0, none⟩) 64 64) 3 1 64 (ic Pl.sOld), own (.slice D7 m7_ dc7) 3 1 m7_ (ic []), blk g62 5 [.int .u8 2, .int .u8 2, .int .u8 7, .int .u8 7, .int .u8 2], own (.slice D6 m6_ dc6) 3 1 m6_ (ic []), blk g50 5 [.int .u8 4, .int .u8 2, .int .u8 7, .int .u8 3, .int .u8 20], own (.slice D5 m5_ dc5) 3 1 m5_ (ic []), blk g38 5 [.int .u8 4, .int .u8 2, .int .u8 7, .int .u8 3], own (.slice D4 m4_ dc4) 3 1 m4_ (ic [7, 7, 3, 7]), blk g26 5 [.int .u8 4, .int .u8 2, .int .u8 7, .int .u8 3, .int .u8 4, .int .u8 99], blk g15 3 [.int .i64 9, .int .i64 8, .int .i64 7], blk g7 3 [.int .i64 7, .int .i64 7, .int .i64 3, .int .i64 7]] w140) := Lib.hid hT_
      clear S137
      clear hT_ hS_ hg139
      refine @wpG_p _ _ _ _ _ (some 108) (.tuple #[.slice D11 m11_ dc11, .int .i64 0]) _ _ rfl (by rfl) (fun _ => rfl) ?_
      simp only [n1, n3, n4]
      refine @wpG_p _ _ _ _ _ (some 111) (.slice D11 m11_ dc11) _ _ rfl (by rfl) (fun W => by go_simp) ?_
      simp only [n1, n3, n4]
      refine @wpG_p _ _ _ _ _ (some 112) (.int .i64 0) _ _ rfl (by rfl) (fun W => by go_simp) ?_
      simp only [n1, n3, n4]
      refine @wpG_p _ _ _ _ _ (some 28) (.slice D11 m11_ dc11) _ _ rfl (by rfl) (fun _ => rfl) ?_
      simp only [n1, n3, n4]
      refine @wpG_p _ _ _ _ _ (some 29) (.int .i64 0) _ _ rfl (by rfl) (fun _ => rfl) ?_
      simp only [n1, n3, n4]
      refine wpG_done (fun V142 hv143 => ?_)
      have S144 : Hid (St w noB [own (.slice D11 m11_ dc11) 3 1 m11_ (ic Pl.sNew), own (.slice DP mP_ dcP) 3 1 mP_ (ic Pl.sNew), own (.slice (some ⟨g83, 0, none⟩) 64 64) 3 1 64 (ic Pl.sNew), own (.slice (some ⟨g75, 0, none⟩) 64 64) 3 1 64 (ic Pl.sOld), own (.slice D7 m7_ dc7) 3 1 m7_ (ic []), blk g62 5 [.int .u8 2, .int .u8 2, .int .u8 7, .int .u8 7, .int .u8 2], own (.slice D6 m6_ dc6) 3 1 m6_ (ic []), blk g50 5 [.int .u8 4, .int .u8 2, .int .u8 7, .int .u8 3, .int .u8 20], own (.slice D5 m5_ dc5) 3 1 m5_ (ic []), blk g38 5 [.int .u8 4, .int .u8 2, .int .u8 7, .int .u8 3], own (.slice D4 m4_ dc4) 3 1 m4_ (ic [7, 7, 3, 7]), blk g26 5 [.int .u8 4, .int .u8 2, .int .u8 7, .int .u8 3, .int .u8 4, .int .u8 99], blk g15 3 [.int .i64 9, .int .i64 8, .int .i64 7], blk g7 3 [.int .i64 7, .int .i64 7, .int .i64 3, .int .i64 7]] V142) := Lib.hid (S141.out.gr hv143)
      clear S141
      clear hv143
      refine ⟨rfl, hK _ _ ?_⟩
      clear hK
      go_upto_region 20 with fail
      refine wpG_region_k (fun K hK => ?_)
      refine @wpG_p _ _ _ _ _ (some 114) (.string (bstr [64, 2, 1, 6, 0, 2, 0, 0, 0, 0, 0, 0])) _ _ rfl (by rfl) (fun _ => rfl) ?_
      simp only [n1, n3, n4]
      refine wpG_call (some 115) 20 #[.string (bstr [64, 2, 1, 6, 0, 2, 0, 0, 0, 0, 0, 0])] rfl (by rfl) (fun W => by go_simp) (fun W145 hg146 => ?_)
      refine (materials_c [64, 2, 1, 6, 0, 2, 0, 0, 0, 0, 0, 0] Pl.sNew [1, 6] 0 W145 sn_12 sn_13 (by decide)).mono ?_
      rintro e w147 ⟨DM, mM_, dcM, rfl, hS_⟩
      refine ⟨_, rfl, ?_⟩
      have hT_ := (S144.out.gr hg146).got hS_
      simp only [n1, n3, n4]
      have S148 : Hid (St w noB [own (.slice DM mM_ dcM) 3 1 mM_ (ic [1, 6]), own (.slice D11 m11_ dc11) 3 1 m11_ (ic Pl.sNew), own (.slice DP mP_ dcP) 3 1 mP_ (ic Pl.sNew), own (.slice (some ⟨g83, 0, none⟩) 64 64) 3 1 64 (ic Pl.sNew), own (.slice (some ⟨g75, 0, none⟩) 64 64) 3 1 64 (ic Pl.sOld), own (.slice D7 m7_ dc7) 3 1 m7_ (ic []), blk g62 5 [.int .u8 2, .int .u8 2, .int .u8 7, .int .u8 7, .int .u8 2], own (.slice D6 m6_ dc6) 3 1 m6_ (ic []), blk g50 5 [.int .u8 4, .int .u8 2, .int .u8 7, .int .u8 3, .int .u8 20], own (.slice D5 m5_ dc5) 3 1 m5_ (ic []), blk g38 5 [.int .u8 4, .int .u8 2, .int .u8 7, .int .u8 3], own (.slice D4 m4_ dc4) 3 1 m4_ (ic [7, 7, 3, 7]), blk g26 5 [.int .u8 4, .int .u8 2, .int .u8 7, .int .u8 3, .int .u8 4, .int .u8 99], blk g15 3 [.int .i64 9, .int .i64 8, .int .i64 7], blk g7 3 [.int .i64 7, .int .i64 7, .int .i64 3, .int .i64 7]] w147) := Lib.hid hT_
      clear S144
      clear hT_ hS_ hg146
      refine @wpG_p _ _ _ _ _ (some 113) (.tuple #[.slice DM mM_ dcM, .int .i64 0]) _ _ rfl (by rfl) (fun _ => rfl) ?_
      simp only [n1, n3, n4]
      refine @wpG_p _ _ _ _ _ (some 116) (.slice DM mM_ dcM) _ _ rfl (by rfl) (fun W => by go_simp) ?_
      simp only [n1, n3, n4]
      refine @wpG_p _ _ _ _ _ (some 117) (.int .i64 0) _ _ rfl (by rfl) (fun W => by go_simp) ?_
      simp only [n1, n3, n4]
      refine @wpG_p _ _ _ _ _ (some 30) (.slice DM mM_ dcM) _ _ rfl (by rfl) (fun _ => rfl) ?_
      simp only [n1, n3, n4]
      refine @wpG_p _ _ _ _ _ (some 31) (.int .i64 0) _ _ rfl (by rfl) (fun _ => rfl) ?_
      simp only [n1, n3, n4]
      refine wpG_done (fun V149 hv150 => ?_)
      have S151 : Hid (St w noB [own (.slice DM mM_ dcM) 3 1 mM_ (ic [1, 6]), own (.slice D11 m11_ dc11) 3 1 m11_ (ic Pl.sNew), own (.slice DP mP_ dcP) 3 1 mP_ (ic Pl.sNew), own (.slice (some ⟨g83, 0, none⟩) 64 64) 3 1 64 (ic Pl.sNew), own (.slice (some ⟨g75, 0, none⟩) 64 64) 3 1 64 (ic Pl.sOld), own (.slice D7 m7_ dc7) 3 1 m7_ (ic []), blk g62 5 [.int .u8 2, .int .u8 2, .int .u8 7, .int .u8 7, .int .u8 2], own (.slice D6 m6_ dc6) 3 1 m6_ (ic []), blk g50 5 [.int .u8 4, .int .u8 2, .int .u8 7, .int .u8 3, .int .u8 20], own (.slice D5 m5_ dc5) 3 1 m5_ (ic []), blk g38 5 [.int .u8 4, .int .u8 2, .int .u8 7, .int .u8 3], own (.slice D4 m4_ dc4) 3 1 m4_ (ic [7, 7, 3, 7]), blk g26 5 [.int .u8 4, .int .u8 2, .int .u8 7, .int .u8 3, .int .u8 4, .int .u8 99], blk g15 3 [.int .i64 9, .int .i64 8, .int .i64 7], blk g7 3 [.int .i64 7, .int .i64 7, .int .i64 3, .int .i64 7]] V149) := Lib.hid (S148.out.gr hv150)
      clear S148
      clear hv150
      refine ⟨rfl, hK _ _ ?_⟩
      clear hK
      go_upto_region 21 with fail
      refine wpG_region_k (fun K hK => ?_)
      refine @wpG_p _ _ _ _ _ (some 118) (.string (bstr [4, 2, 7, 3, 4])) _ _ rfl (by rfl) (fun _ => rfl) ?_
      simp only [n1, n3, n4]
      refine wpG_val (some 119) rfl (by rfl) (fun W152 hg153 => ⟨.slice (some ⟨W152.heap.size, 0, none⟩) 5 5, W152.alloc (.cells #[.int .u8 4, .int .u8 2, .int .u8 7, .int .u8 3, .int .u8 4] 5), by (go_simp <;> rfl), ?_⟩)
      simp only [n1, n3, n4]
      obtain ⟨g154, U155, hg_, hu_, hS_⟩ := (S151.out.gr hg153).made [.int .u8 4, .int .u8 2, .int .u8 7, .int .u8 3, .int .u8 4] 5
      rw [← hu_, ← hg_]
      have S156 : Hid (St w noB [blk g154 5 [.int .u8 4, .int .u8 2, .int .u8 7, .int .u8 3, .int .u8 4], own (.slice DM mM_ dcM) 3 1 mM_ (ic [1, 6]), own (.slice D11 m11_ dc11) 3 1 m11_ (ic Pl.sNew), own (.slice DP mP_ dcP) 3 1 mP_ (ic Pl.sNew), own (.slice (some ⟨g83, 0, none⟩) 64 64) 3 1 64 (ic Pl.sNew), own (.slice (some ⟨g75, 0, none⟩) 64 64) 3 1 64 (ic Pl.sOld), own (.slice D7 m7_ dc7) 3 1 m7_ (ic []), blk g62 5 [.int .u8 2, .int .u8 2, .int .u8 7, .int .u8 7, .int .u8 2], own (.slice D6 m6_ dc6) 3 1 m6_ (ic []), blk g50 5 [.int .u8 4, .int .u8 2, .int .u8 7, .int .u8 3, .int .u8 20], own (.slice D5 m5_ dc5) 3 1 m5_ (ic []), blk g38 5 [.int .u8 4, .int .u8 2, .int .u8 7, .int .u8 3], own (.slice D4 m4_ dc4) 3 1 m4_ (ic [7, 7, 3, 7]), blk g26 5 [.int .u8 4, .int .u8 2, .int .u8 7, .int .u8 3, .int .u8 4, .int .u8 99], blk g15 3 [.int .i64 9, .int .i64 8, .int .i64 7], blk g7 3 [.int .i64 7, .int .i64 7, .int .i64 3, .int .i64 7]] U155) := Lib.hid hS_
      clear S151
      clear hg_ hu_ hS_ hg153
      refine @wpG_tk _ _ _ _ _ (some 120) (.string (bstr [4, 2, 7, 3, 4])) _ _ rfl (.call (f := 26) (args := #[.slice (some ⟨g154, 0, none⟩) 5 5]) (by rfl) (fun W => by go_simp) (fun W hg => text_any _ _ _ [4, 2, 7, 3, 4] W (by have h_ := SL.ofBlkx (S156.out.gr hg) 0 rfl 5 rfl; exact h_))) ?_
      simp only [n1, n3, n4]
      refine @wpG_p _ _ _ _ _ (some 121) (.bool true) _ _ rfl (by rfl) (fun W => by first | kernel_rfl | (go_simp; done)) ?_
      simp only [n1, n3, n4]
      refine @wpG_p _ _ _ _ _ (some 122) (.bool true) _ _ rfl (by rfl) (fun _ => rfl) ?_
      simp only [n1, n3, n4]
      refine @wpG_p _ _ _ _ _ (some 123) (.int .i64 0) _ _ rfl (by rfl) (fun _ => rfl) ?_
      simp only [n1, n3, n4]
      refine @wpG_p _ _ _ _ _ (some 124) (.bool true) _ _ rfl (by rfl) (fun W => by go_simp) ?_
      simp only [n1, n3, n4]
      refine @wpG_p _ _ _ _ _ (some 125) (.bool true) _ _ rfl (by rfl) (fun W => by go_simp) ?_
      simp only [n1, n3, n4]
      refine @wpG_p _ _ _ _ _ (some 126) (.bool true) _ _ rfl (by rfl) (fun _ => rfl) ?_
      simp only [n1, n3, n4]
      refine @wpG_p _ _ _ _ _ (some 127) (.string (bstr [3, 3, 9, 8, 7, 36])) _ _ rfl (by rfl) (fun _ => rfl) ?_
      simp only [n1, n3, n4]
      refine wpG_val (some 128) rfl (by rfl) (fun W157 hg158 => ⟨.slice (some ⟨W157.heap.size, 0, none⟩) 6 6, W157.alloc (.cells #[.int .u8 3, .int .u8 3, .int .u8 9, .int .u8 8, .int .u8 7, .int .u8 36] 5), by (go_simp <;> rfl), ?_⟩)
      simp only [n1, n3, n4]
      obtain ⟨g159, U160, hg_, hu_, hS_⟩ := (S156.out.gr hg158).made [.int .u8 3, .int .u8 3, .int .u8 9, .int .u8 8, .int .u8 7, .int .u8 36] 5
      rw [← hu_, ← hg_]
      have S161 : Hid (St w noB [blk g159 5 [.int .u8 3, .int .u8 3, .int .u8 9, .int .u8 8, .int .u8 7, .int .u8 36], blk g154 5 [.int .u8 4, .int .u8 2, .int .u8 7, .int .u8 3, .int .u8 4], own (.slice DM mM_ dcM) 3 1 mM_ (ic [1, 6]), own (.slice D11 m11_ dc11) 3 1 m11_ (ic Pl.sNew), own (.slice DP mP_ dcP) 3 1 mP_ (ic Pl.sNew), own (.slice (some ⟨g83, 0, none⟩) 64 64) 3 1 64 (ic Pl.sNew), own (.slice (some ⟨g75, 0, none⟩) 64 64) 3 1 64 (ic Pl.sOld), own (.slice D7 m7_ dc7) 3 1 m7_ (ic []), blk g62 5 [.int .u8 2, .int .u8 2, .int .u8 7, .int .u8 7, .int .u8 2], own (.slice D6 m6_ dc6) 3 1 m6_ (ic []), blk g50 5 [.int .u8 4, .int .u8 2, .int .u8 7, .int .u8 3, .int .u8 20], own (.slice D5 m5_ dc5) 3 1 m5_ (ic []), blk g38 5 [.int .u8 4, .int .u8 2, .int .u8 7, .int .u8 3], own (.slice D4 m4_ dc4) 3 1 m4_ (ic [7, 7, 3, 7]), blk g26 5 [.int .u8 4, .int .u8 2, .int .u8 7, .int .u8 3, .int .u8 4, .int .u8 99], blk g15 3 [.int .i64 9, .int .i64 8, .int .i64 7], blk g7 3 [.int .i64 7, .int .i64 7, .int .i64 3, .int .i64 7]] U160) := Lib.hid hS_
      clear S156
      clear hg_ hu_ hS_ hg158
      refine @wpG_tk _ _ _ _ _ (some 129) (.string (bstr [3, 3, 9, 8, 7, 36])) _ _ rfl (.call (f := 26) (args := #[.slice (some ⟨g159, 0, none⟩) 6 6]) (by rfl) (fun W => by go_simp) (fun W hg => text_any _ _ _ [3, 3, 9, 8, 7, 36] W (by have h_ := SL.ofBlkx (S161.out.gr hg) 0 rfl 6 rfl; exact h_))) ?_
      simp only [n1, n3, n4]
      refine @wpG_p _ _ _ _ _ (some 130) (.bool true) _ _ rfl (by rfl) (fun W => by first | kernel_rfl | (go_simp; done)) ?_
      simp only [n1, n3, n4]
      refine @wpG_p _ _ _ _ _ (some 131) (.bool true) _ _ rfl (by rfl) (fun W => by go_simp) ?_
      simp only [n1, n3, n4]
      refine @wpG_p _ _ _ _ _ (some 132) (.bool true) _ _ rfl (by rfl) (fun _ => rfl) ?_
      simp only [n1, n3, n4]
      refine @wpG_p _ _ _ _ _ (some 133) (.int .i64 0) _ _ rfl (by rfl) (fun _ => rfl) ?_
      simp only [n1, n3, n4]
      refine @wpG_p _ _ _ _ _ (some 134) (.bool true) _ _ rfl (by rfl) (fun W => by go_simp) ?_
      simp only [n1, n3, n4]
      refine @wpG_p _ _ _ _ _ (some 135) (.bool true) _ _ rfl (by rfl) (fun W => by go_simp) ?_
      simp only [n1, n3, n4]
      refine @wpG_p _ _ _ _ _ (some 136) (.bool true) _ _ rfl (by rfl) (fun _ => rfl) ?_
      simp only [n1, n3, n4]
      refine @wpG_p _ _ _ _ _ (some 137) (.string (bstr [0])) _ _ rfl (by rfl) (fun _ => rfl) ?_
      simp only [n1, n3, n4]
      refine wpG_val (some 138) rfl (by rfl) (fun W162 hg163 => ⟨.slice (some ⟨W162.heap.size, 0, none⟩) 1 1, W162.alloc (.cells #[.int .u8 0] 5), by (go_simp <;> rfl), ?_⟩)
      simp only [n1, n3, n4]
      obtain ⟨g164, U165, hg_, hu_, hS_⟩ := (S161.out.gr hg163).made [.int .u8 0] 5
      rw [← hu_, ← hg_]
      have S166 : Hid (St w noB [blk g164 5 [.int .u8 0], blk g159 5 [.int .u8 3, .int .u8 3, .int .u8 9, .int .u8 8, .int .u8 7, .int .u8 36], blk g154 5 [.int .u8 4, .int .u8 2, .int .u8 7, .int .u8 3, .int .u8 4], own (.slice DM mM_ dcM) 3 1 mM_ (ic [1, 6]), own (.slice D11 m11_ dc11) 3 1 m11_ (ic Pl.sNew), own (.slice DP mP_ dcP) 3 1 mP_ (ic Pl.sNew), own (.slice (some ⟨g83, 0, none⟩) 64 64) 3 1 64 (ic Pl.sNew), own (.slice (some ⟨g75, 0, none⟩) 64 64) 3 1 64 (ic Pl.sOld), own (.slice D7 m7_ dc7) 3 1 m7_ (ic []), blk g62 5 [.int .u8 2, .int .u8 2, .int .u8 7, .int .u8 7, .int .u8 2], own (.slice D6 m6_ dc6) 3 1 m6_ (ic []), blk g50 5 [.int .u8 4, .int .u8 2, .int .u8 7, .int .u8 3, .int .u8 20], own (.slice D5 m5_ dc5) 3 1 m5_ (ic []), blk g38 5 [.int .u8 4, .int .u8 2, .int .u8 7, .int .u8 3], own (.slice D4 m4_ dc4) 3 1 m4_ (ic [7, 7, 3, 7]), blk g26 5 [.int .u8 4, .int .u8 2, .int .u8 7, .int .u8 3, .int .u8 4, .int .u8 99], blk g15 3 [.int .i64 9, .int .i64 8, .int .i64 7], blk g7 3 [.int .i64 7, .int .i64 7, .int .i64 3, .int .i64 7]] U165) := Lib.hid hS_
      clear S161
      clear hg_ hu_ hS_ hg163
      refine @wpG_tk _ _ _ _ _ (some 139) (.string (bstr [0])) _ _ rfl (.call (f := 26) (args := #[.slice (some ⟨g164, 0, none⟩) 1 1]) (by rfl) (fun W => by go_simp) (fun W hg => text_any _ _ _ [0] W (by have h_ := SL.ofBlkx (S166.out.gr hg) 0 rfl 1 rfl; exact h_))) ?_
      simp only [n1, n3, n4]
      refine @wpG_p _ _ _ _ _ (some 140) (.bool true) _ _ rfl (by rfl) (fun W => by first | kernel_rfl | (go_simp; done)) ?_
      simp only [n1, n3, n4]
      refine @wpG_p _ _ _ _ _ (some 141) (.bool true) _ _ rfl (by rfl) (fun W => by go_simp) ?_
      simp only [n1, n3, n4]
      refine @wpG_p _ _ _ _ _ (some 142) (.bool true) _ _ rfl (by rfl) (fun _ => rfl) ?_
      simp only [n1, n3, n4]
      refine @wpG_p _ _ _ _ _ (some 143) (.int .i64 0) _ _ rfl (by rfl) (fun _ => rfl) ?_
      simp only [n1, n3, n4]
      refine @wpG_p _ _ _ _ _ (some 144) (.bool true) _ _ rfl (by rfl) (fun W => by go_simp) ?_
      simp only [n1, n3, n4]
      refine @wpG_p _ _ _ _ _ (some 145) (.bool true) _ _ rfl (by rfl) (fun W => by go_simp) ?_
      simp only [n1, n3, n4]
      refine @wpG_p _ _ _ _ _ (some 32) (.bool true) _ _ rfl (by rfl) (fun _ => rfl) ?_
      simp only [n1, n3, n4]
      refine wpG_done (fun V167 hv168 => ?_)
      have S169 : Hid (St w noB [blk g164 5 [.int .u8 0], blk g159 5 [.int .u8 3, .int .u8 3, .int .u8 9, .int .u8 8, .int .u8 7, .int .u8 36], blk g154 5 [.int .u8 4, .int .u8 2, .int .u8 7, .int .u8 3, .int .u8 4], own (.slice DM mM_ dcM) 3 1 mM_ (ic [1, 6]), own (.slice D11 m11_ dc11) 3 1 m11_ (ic Pl.sNew), own (.slice DP mP_ dcP) 3 1 mP_ (ic Pl.sNew), own (.slice (some ⟨g83, 0, none⟩) 64 64) 3 1 64 (ic Pl.sNew), own (.slice (some ⟨g75, 0, none⟩) 64 64) 3 1 64 (ic Pl.sOld), own (.slice D7 m7_ dc7) 3 1 m7_ (ic []), blk g62 5 [.int .u8 2, .int .u8 2, .int .u8 7, .int .u8 7, .int .u8 2], own (.slice D6 m6_ dc6) 3 1 m6_ (ic []), blk g50 5 [.int .u8 4, .int .u8 2, .int .u8 7, .int .u8 3, .int .u8 20], own (.slice D5 m5_ dc5) 3 1 m5_ (ic []), blk g38 5 [.int .u8 4, .int .u8 2, .int .u8 7, .int .u8 3], own (.slice D4 m4_ dc4) 3 1 m4_ (ic [7, 7, 3, 7]), blk g26 5 [.int .u8 4, .int .u8 2, .int .u8 7, .int .u8 3, .int .u8 4, .int .u8 99], blk g15 3 [.int .i64 9, .int .i64 8, .int .i64 7], blk g7 3 [.int .i64 7, .int .i64 7, .int .i64 3, .int .i64 7]] V167) := Lib.hid (S166.out.gr hv168)
      clear S166
      clear hv168
      refine ⟨rfl, hK _ _ ?_⟩
      clear hK
      go_upto_region 22 with fail
      refine wpG_region_k (fun K hK => ?_)
      refine @wpG_p _ _ _ _ _ (some 146) (.slice D4 m4_ dc4) _ _ rfl (by rfl) (fun _ => rfl) ?_
      simp only [n1, n3, n4]
      refine wpG_val (some 147) rfl (by rfl) (fun W170 hg171 => ⟨.slice (some ⟨W170.heap.size, 0, none⟩) 4 4, W170.alloc (.cells #[.int .i64 7, .int .i64 7, .int .i64 3, .int .i64 7] 3), by (go_simp <;> rfl), ?_⟩)
      simp only [n1, n3, n4]
      obtain ⟨g172, U173, hg_, hu_, hS_⟩ := (S169.out.gr hg171).made [.int .i64 7, .int .i64 7, .int .i64 3, .int .i64 7] 3
      rw [← hu_, ← hg_]
      have S174 : Hid (St w noB [blk g172 3 [.int .i64 7, .int .i64 7, .int .i64 3, .int .i64 7], blk g164 5 [.int .u8 0], blk g159 5 [.int .u8 3, .int .u8 3, .int .u8 9, .int .u8 8, .int .u8 7, .int .u8 36], blk g154 5 [.int .u8 4, .int .u8 2, .int .u8 7, .int .u8 3, .int .u8 4], own (.slice DM mM_ dcM) 3 1 mM_ (ic [1, 6]), own (.slice D11 m11_ dc11) 3 1 m11_ (ic Pl.sNew), own (.slice DP mP_ dcP) 3 1 mP_ (ic Pl.sNew), own (.slice (some ⟨g83, 0, none⟩) 64 64) 3 1 64 (ic Pl.sNew), own (.slice (some ⟨g75, 0, none⟩) 64 64) 3 1 64 (ic Pl.sOld), own (.slice D7 m7_ dc7) 3 1 m7_ (ic []), blk g62 5 [.int .u8 2, .int .u8 2, .int .u8 7, .int .u8 7, .int .u8 2], own (.slice D6 m6_ dc6) 3 1 m6_ (ic []), blk g50 5 [.int .u8 4, .int .u8 2, .int .u8 7, .int .u8 3, .int .u8 20], own (.slice D5 m5_ dc5) 3 1 m5_ (ic []), blk g38 5 [.int .u8 4, .int .u8 2, .int .u8 7, .int .u8 3], own (.slice D4 m4_ dc4) 3 1 m4_ (ic [7, 7, 3, 7]), blk g26 5 [.int .u8 4, .int .u8 2, .int .u8 7, .int .u8 3, .int .u8 4, .int .u8 99], blk g15 3 [.int .i64 9, .int .i64 8, .int .i64 7], blk g7 3 [.int .i64 7, .int .i64 7, .int .i64 3, .int .i64 7]] U173) := Lib.hid hS_
      clear S169
      clear hg_ hu_ hS_ hg171
      refine @wpG_tk _ _ _ _ _ (some 148) (.bool true) _ _ rfl (.call (f := 15) (args := #[.slice D4 m4_ dc4, .slice (some ⟨g172, 0, none⟩) 4 4]) (by rfl) (fun W => by go_simp) (fun W hg => ((same_any _ _ _ [7, 7, 3, 7] _ _ _ [7, 7, 3, 7] W (SL.ofOwn ((S174.out.gr hg).ownr 15 rfl)) (SL.ofBlk (S174.out.gr hg) 0 rfl 1 4 (ic [7, 7, 3, 7]) rfl rfl (by decide))).mono (fun e w' h => ⟨h.1.trans (by rw [decide_eq_true rfl]), h.2⟩)))) ?_
      simp only [n1, n3, n4]
      refine @wpG_p _ _ _ _ _ (some 149) (.bool true) _ _ rfl (by rfl) (fun _ => rfl) ?_
      simp only [n1, n3, n4]
      refine @wpG_p _ _ _ _ _ (some 150) (.int .i64 5) _ _ rfl (by rfl) (fun _ => rfl) ?_
      simp only [n1, n3, n4]
      refine @wpG_p _ _ _ _ _ (some 151) (.bool true) _ _ rfl (by rfl) (fun W => by go_simp) ?_
      simp only [n1, n3, n4]
      refine @wpG_p _ _ _ _ _ (some 152) (.bool true) _ _ rfl (by rfl) (fun W => by go_simp) ?_
      simp only [n1, n3, n4]
      refine @wpG_p _ _ _ _ _ (some 153) (.bool true) _ _ rfl (by rfl) (fun _ => rfl) ?_
      simp only [n1, n3, n4]
      refine @wpG_p _ _ _ _ _ (some 154) (.int .i64 0) _ _ rfl (by rfl) (fun _ => rfl) ?_
      simp only [n1, n3, n4]
      refine @wpG_p _ _ _ _ _ (some 155) (.bool true) _ _ rfl (by rfl) (fun W => by go_simp) ?_
      simp only [n1, n3, n4]
      refine @wpG_p _ _ _ _ _ (some 156) (.bool true) _ _ rfl (by rfl) (fun W => by go_simp) ?_
      simp only [n1, n3, n4]
      refine @wpG_p _ _ _ _ _ (some 157) (.bool true) _ _ rfl (by rfl) (fun _ => rfl) ?_
      simp only [n1, n3, n4]
      refine @wpG_p _ _ _ _ _ (some 158) (.int .i64 5) _ _ rfl (by rfl) (fun _ => rfl) ?_
      simp only [n1, n3, n4]
      refine @wpG_p _ _ _ _ _ (some 159) (.bool true) _ _ rfl (by rfl) (fun W => by go_simp) ?_
      simp only [n1, n3, n4]
      refine @wpG_p _ _ _ _ _ (some 160) (.bool true) _ _ rfl (by rfl) (fun W => by go_simp) ?_
      simp only [n1, n3, n4]
      refine @wpG_p _ _ _ _ _ (some 161) (.bool true) _ _ rfl (by rfl) (fun _ => rfl) ?_
      simp only [n1, n3, n4]
      refine @wpG_p _ _ _ _ _ (some 162) (.int .i64 6) _ _ rfl (by rfl) (fun _ => rfl) ?_
      simp only [n1, n3, n4]
      refine @wpG_p _ _ _ _ _ (some 163) (.bool true) _ _ rfl (by rfl) (fun W => by go_simp) ?_
      simp only [n1, n3, n4]
      refine @wpG_p _ _ _ _ _ (some 164) (.bool true) _ _ rfl (by rfl) (fun W => by go_simp) ?_
      simp only [n1, n3, n4]
      refine @wpG_p _ _ _ _ _ (some 165) (.bool true) _ _ rfl (by rfl) (fun _ => rfl) ?_
      simp only [n1, n3, n4]
      refine @wpG_p _ _ _ _ _ (some 166) (.int .i64 6) _ _ rfl (by rfl) (fun _ => rfl) ?_
      simp only [n1, n3, n4]
      refine @wpG_p _ _ _ _ _ (some 167) (.bool true) _ _ rfl (by rfl) (fun W => by go_simp) ?_
      simp only [n1, n3, n4]
      refine @wpG_p _ _ _ _ _ (some 168) (.bool true) _ _ rfl (by rfl) (fun W => by go_simp) ?_
      simp only [n1, n3, n4]
      refine @wpG_p _ _ _ _ _ (some 33) (.bool true) _ _ rfl (by rfl) (fun _ => rfl) ?_
      simp only [n1, n3, n4]
      refine wpG_done (fun V175 hv176 => ?_)
      have S177 : Hid (St w noB [blk g172 3 [.int .i64 7, .int .i64 7, .int .i64 3, .int .i64 7], blk g164 5 [.int .u8 0], blk g159 5 [.int .u8 3, .int .u8 3, .int .u8 9, .int .u8 8, .int .u8 7, .int .u8 36], blk g154 5 [.int .u8 4, .int .u8 2, .int .u8 7, .int .u8 3, .int .u8 4], own (.slice DM mM_ dcM) 3 1 mM_ (ic [1, 6]), own (.slice D11 m11_ dc11) 3 1 m11_ (ic Pl.sNew), own (.slice DP mP_ dcP) 3 1 mP_ (ic Pl.sNew), own (.slice (some ⟨g83, 0, none⟩) 64 64) 3 1 64 (ic Pl.sNew), own (.slice (some ⟨g75, 0, none⟩) 64 64) 3 1 64 (ic Pl.sOld), own (.slice D7 m7_ dc7) 3 1 m7_ (ic []), blk g62 5 [.int .u8 2, .int .u8 2, .int .u8 7, .int .u8 7, .int .u8 2], own (.slice D6 m6_ dc6) 3 1 m6_ (ic []), blk g50 5 [.int .u8 4, .int .u8 2, .int .u8 7, .int .u8 3, .int .u8 20], own (.slice D5 m5_ dc5) 3 1 m5_ (ic []), blk g38 5 [.int .u8 4, .int .u8 2, .int .u8 7, .int .u8 3], own (.slice D4 m4_ dc4) 3 1 m4_ (ic [7, 7, 3, 7]), blk g26 5 [.int .u8 4, .int .u8 2, .int .u8 7, .int .u8 3, .int .u8 4, .int .u8 99], blk g15 3 [.int .i64 9, .int .i64 8, .int .i64 7], blk g7 3 [.int .i64 7, .int .i64 7, .int .i64 3, .int .i64 7]] V175) := Lib.hid (S174.out.gr hv176)
      clear S174
      clear hv176
      refine ⟨rfl, hK _ _ ?_⟩
      clear hK
      go_upto_region 23 with fail
      refine wpG_region_k (fun K hK => ?_)
      refine @wpG_p _ _ _ _ _ (some 169) (.string (bstr [0, 2, 0, 0, 0, 0, 0, 0, 1, 1, 6])) _ _ rfl (by rfl) (fun _ => rfl) ?_
      simp only [n1, n3, n4]
      refine wpG_val (some 170) rfl (by rfl) (fun W178 hg179 => ⟨.slice (some ⟨W178.heap.size, 0, none⟩) 11 11, W178.alloc (.cells #[.int .u8 0, .int .u8 2, .int .u8 0, .int .u8 0, .int .u8 0, .int .u8 0, .int .u8 0, .int .u8 0, .int .u8 1, .int .u8 1, .int .u8 6] 5), by (go_simp <;> rfl), ?_⟩)
      simp only [n1, n3, n4]
      obtain ⟨g180, U181, hg_, hu_, hS_⟩ := (S177.out.gr hg179).made [.int .u8 0, .int .u8 2, .int .u8 0, .int .u8 0, .int .u8 0, .int .u8 0, .int .u8 0, .int .u8 0, .int .u8 1, .int .u8 1, .int .u8 6] 5
      rw [← hu_, ← hg_]
      have S182 : Hid (St w noB [blk g180 5 [.int .u8 0, .int .u8 2, .int .u8 0, .int .u8 0, .int .u8 0, .int .u8 0, .int .u8 0, .int .u8 0, .int .u8 1, .int .u8 1, .int .u8 6], blk g172 3 [.int .i64 7, .int .i64 7, .int .i64 3, .int .i64 7], blk g164 5 [.int .u8 0], blk g159 5 [.int .u8 3, .int .u8 3, .int .u8 9, .int .u8 8, .int .u8 7, .int .u8 36], blk g154 5 [.int .u8 4, .int .u8 2, .int .u8 7, .int .u8 3, .int .u8 4], own (.slice DM mM_ dcM) 3 1 mM_ (ic [1, 6]), own (.slice D11 m11_ dc11) 3 1 m11_ (ic Pl.sNew), own (.slice DP mP_ dcP) 3 1 mP_ (ic Pl.sNew), own (.slice (some ⟨g83, 0, none⟩) 64 64) 3 1 64 (ic Pl.sNew), own (.slice (some ⟨g75, 0, none⟩) 64 64) 3 1 64 (ic Pl.sOld), own (.slice D7 m7_ dc7) 3 1 m7_ (ic []), blk g62 5 [.int .u8 2, .int .u8 2, .int .u8 7, .int .u8 7, .int .u8 2], own (.slice D6 m6_ dc6) 3 1 m6_ (ic []), blk g50 5 [.int .u8 4, .int .u8 2, .int .u8 7, .int .u8 3, .int .u8 20], own (.slice D5 m5_ dc5) 3 1 m5_ (ic []), blk g38 5 [.int .u8 4, .int .u8 2, .int .u8 7, .int .u8 3], own (.slice D4 m4_ dc4) 3 1 m4_ (ic [7, 7, 3, 7]), blk g26 5 [.int .u8 4, .int .u8 2, .int .u8 7, .int .u8 3, .int .u8 4, .int .u8 99], blk g15 3 [.int .i64 9, .int .i64 8, .int .i64 7], blk g7 3 [.int .i64 7, .int .i64 7, .int .i64 3, .int .i64 7]] U181) := Lib.hid hS_
      clear S177
      clear hg_ hu_ hS_ hg179
      refine @wpG_tk _ _ _ _ _ (some 171) (.string (bstr [0, 2, 0, 0, 0, 0, 0, 0, 1, 1, 6])) _ _ rfl (.call (f := 26) (args := #[.slice (some ⟨g180, 0, none⟩) 11 11]) (by rfl) (fun W => by go_simp) (fun W hg => text_any _ _ _ [0, 2, 0, 0, 0, 0, 0, 0, 1, 1, 6] W (by have h_ := SL.ofBlkx (S182.out.gr hg) 0 rfl 11 rfl; exact h_))) ?_
      simp only [n1, n3, n4]
      refine @wpG_p _ _ _ _ _ (some 172) (.bool true) _ _ rfl (by rfl) (fun W => by first | kernel_rfl | (go_simp; done)) ?_
      simp only [n1, n3, n4]
      refine @wpG_p _ _ _ _ _ (some 173) (.bool true) _ _ rfl (by rfl) (fun _ => rfl) ?_
      simp only [n1, n3, n4]
      refine @wpG_p _ _ _ _ _ (some 174) (.int .i64 0) _ _ rfl (by rfl) (fun _ => rfl) ?_
      simp only [n1, n3, n4]
      refine @wpG_p _ _ _ _ _ (some 175) (.bool true) _ _ rfl (by rfl) (fun W => by go_simp) ?_
      simp only [n1, n3, n4]
      refine @wpG_p _ _ _ _ _ (some 176) (.bool true) _ _ rfl (by rfl) (fun W => by go_simp) ?_
      simp only [n1, n3, n4]
      refine @wpG_p _ _ _ _ _ (some 177) (.bool true) _ _ rfl (by rfl) (fun _ => rfl) ?_
      simp only [n1, n3, n4]
      refine @wpG_p _ _ _ _ _ (some 178) (.slice DP mP_ dcP) _ _ rfl (by rfl) (fun _ => rfl) ?_
      simp only [n1, n3, n4]
      refine @wpG_p _ _ _ _ _ (some 179) (.slice (some ⟨g83, 0, none⟩) 64 64) _ _ rfl (by rfl) (fun _ => rfl) ?_
      simp only [n1, n3, n4]
      refine @wpG_tk _ _ _ _ _ (some 180) (.bool true) _ _ rfl (.call (f := 15) (args := #[.slice DP mP_ dcP, .slice (some ⟨g83, 0, none⟩) 64 64]) (by rfl) (fun W => by go_simp) (fun W hg => ((same_any _ _ _ Pl.sNew _ _ _ Pl.sNew W (SL.ofOwn ((S182.out.gr hg).ownr 7 rfl)) (SL.ofOwn ((S182.out.gr hg).ownr 8 rfl))).mono (fun e w' h => ⟨h.1.trans (by rw [decide_eq_true rfl]), h.2⟩)))) ?_
      simp only [n1, n3, n4]
      refine @wpG_p _ _ _ _ _ (some 181) (.bool true) _ _ rfl (by rfl) (fun W => by go_simp) ?_
      simp only [n1, n3, n4]
      refine @wpG_p _ _ _ _ _ (some 182) (.bool true) _ _ rfl (by rfl) (fun _ => rfl) ?_
      simp only [n1, n3, n4]
      refine @wpG_p _ _ _ _ _ (some 183) (.int .i64 0) _ _ rfl (by rfl) (fun _ => rfl) ?_
      simp only [n1, n3, n4]
      refine @wpG_p _ _ _ _ _ (some 184) (.bool true) _ _ rfl (by rfl) (fun W => by go_simp) ?_
      simp only [n1, n3, n4]
      refine @wpG_p _ _ _ _ _ (some 185) (.bool true) _ _ rfl (by rfl) (fun W => by go_simp) ?_
      simp only [n1, n3, n4]
      refine @wpG_p _ _ _ _ _ (some 186) (.bool true) _ _ rfl (by rfl) (fun _ => rfl) ?_
      simp only [n1, n3, n4]
      refine @wpG_p _ _ _ _ _ (some 187) (.string (bstr [64, 2, 1, 6, 0, 2, 0, 0, 0, 0, 0, 0])) _ _ rfl (by rfl) (fun _ => rfl) ?_
      simp only [n1, n3, n4]
      refine @wpG_p _ _ _ _ _ (some 188) (.int .i64 12) _ _ rfl (by rfl) (fun W => by first | kernel_rfl | (go_simp; done)) ?_
      simp only [n1, n3, n4]
      refine @wpG_p _ _ _ _ _ (some 189) (.bool true) _ _ rfl (by rfl) (fun W => by go_simp) ?_
      simp only [n1, n3, n4]
      refine @wpG_p _ _ _ _ _ (some 190) (.bool true) _ _ rfl (by rfl) (fun W => by go_simp) ?_
      simp only [n1, n3, n4]
      refine @wpG_p _ _ _ _ _ (some 191) (.bool true) _ _ rfl (by rfl) (fun _ => rfl) ?_
      simp only [n1, n3, n4]
      refine @wpG_p _ _ _ _ _ (some 192) (.int .i64 0) _ _ rfl (by rfl) (fun _ => rfl) ?_
      simp only [n1, n3, n4]
      refine @wpG_p _ _ _ _ _ (some 193) (.bool true) _ _ rfl (by rfl) (fun W => by go_simp) ?_
      simp only [n1, n3, n4]
      refine @wpG_p _ _ _ _ _ (some 194) (.bool true) _ _ rfl (by rfl) (fun W => by go_simp) ?_
      simp only [n1, n3, n4]
      refine @wpG_p _ _ _ _ _ (some 195) (.bool true) _ _ rfl (by rfl) (fun _ => rfl) ?_
      simp only [n1, n3, n4]
      refine @wpG_p _ _ _ _ _ (some 196) (.slice D11 m11_ dc11) _ _ rfl (by rfl) (fun _ => rfl) ?_
      simp only [n1, n3, n4]
      refine @wpG_p _ _ _ _ _ (some 197) (.slice (some ⟨g83, 0, none⟩) 64 64) _ _ rfl (by rfl) (fun _ => rfl) ?_
      simp only [n1, n3, n4]
      refine @wpG_tk _ _ _ _ _ (some 198) (.bool true) _ _ rfl (.call (f := 15) (args := #[.slice D11 m11_ dc11, .slice (some ⟨g83, 0, none⟩) 64 64]) (by rfl) (fun W => by go_simp) (fun W hg => ((same_any _ _ _ Pl.sNew _ _ _ Pl.sNew W (SL.ofOwn ((S182.out.gr hg).ownr 6 rfl)) (SL.ofOwn ((S182.out.gr hg).ownr 8 rfl))).mono (fun e w' h => ⟨h.1.trans (by rw [decide_eq_true rfl]), h.2⟩)))) ?_
      simp only [n1, n3, n4]
      refine @wpG_p _ _ _ _ _ (some 199) (.bool true) _ _ rfl (by rfl) (fun W => by go_simp) ?_
      simp only [n1, n3, n4]
      refine @wpG_p _ _ _ _ _ (some 200) (.bool true) _ _ rfl (by rfl) (fun _ => rfl) ?_
      simp only [n1, n3, n4]
      refine @wpG_p _ _ _ _ _ (some 201) (.int .i64 0) _ _ rfl (by rfl) (fun _ => rfl) ?_
      simp only [n1, n3, n4]
      refine @wpG_p _ _ _ _ _ (some 202) (.bool true) _ _ rfl (by rfl) (fun W => by go_simp) ?_
      simp only [n1, n3, n4]
      refine @wpG_p _ _ _ _ _ (some 203) (.bool true) _ _ rfl (by rfl) (fun W => by go_simp) ?_
      simp only [n1, n3, n4]
      refine @wpG_p _ _ _ _ _ (some 204) (.bool true) _ _ rfl (by rfl) (fun _ => rfl) ?_
      simp only [n1, n3, n4]
      refine @wpG_p _ _ _ _ _ (some 205) (.slice DM mM_ dcM) _ _ rfl (by rfl) (fun _ => rfl) ?_
      simp only [n1, n3, n4]
      refine wpG_val (some 206) rfl (by rfl) (fun W183 hg184 => ⟨.slice (some ⟨W183.heap.size, 0, none⟩) 2 2, W183.alloc (.cells #[.int .i64 1, .int .i64 6] 3), by (go_simp <;> rfl), ?_⟩)
      simp only [n1, n3, n4]
      obtain ⟨g185, U186, hg_, hu_, hS_⟩ := (S182.out.gr hg184).made [.int .i64 1, .int .i64 6] 3
      rw [← hu_, ← hg_]
      have S187 : Hid (St w noB [blk g185 3 [.int .i64 1, .int .i64 6], blk g180 5 [.int .u8 0, .int .u8 2, .int .u8 0, .int .u8 0, .int .u8 0, .int .u8 0, .int .u8 0, .int .u8 0, .int .u8 1, .int .u8 1, .int .u8 6], blk g172 3 [.int .i64 7, .int .i64 7, .int .i64 3, .int .i64 7], blk g164 5 [.int .u8 0], blk g159 5 [.int .u8 3, .int .u8 3, .int .u8 9, .int .u8 8, .int .u8 7, .int .u8 36], blk g154 5 [.int .u8 4, .int .u8 2, .int .u8 7, .int .u8 3, .int .u8 4], own (.slice DM mM_ dcM) 3 1 mM_ (ic [1, 6]), own (.slice D11 m11_ dc11) 3 1 m11_ (ic Pl.sNew), own (.slice DP mP_ dcP) 3 1 mP_ (ic Pl.sNew), own (.slice (some ⟨g83, 0, none⟩) 64 64) 3 1 64 (ic Pl.sNew), own (.slice (some ⟨g75, 0, none⟩) 64 64) 3 1 64 (ic Pl.sOld), own (.slice D7 m7_ dc7) 3 1 m7_ (ic []), blk g62 5 [.int .u8 2, .int .u8 2, .int .u8 7, .int .u8 7, .int .u8 2], own (.slice D6 m6_ dc6) 3 1 m6_ (ic []), blk g50 5 [.int .u8 4, .int .u8 2, .int .u8 7, .int .u8 3, .int .u8 20], own (.slice D5 m5_ dc5) 3 1 m5_ (ic []), blk g38 5 [.int .u8 4, .int .u8 2, .int .u8 7, .int .u8 3], own (.slice D4 m4_ dc4) 3 1 m4_ (ic [7, 7, 3, 7]), blk g26 5 [.int .u8 4, .int .u8 2, .int .u8 7, .int .u8 3, .int .u8 4, .int .u8 99], blk g15 3 [.int .i64 9, .int .i64 8, .int .i64 7], blk g7 3 [.int .i64 7, .int .i64 7, .int .i64 3, .int .i64 7]] U186) := Lib.hid hS_
      clear S182
      clear hg_ hu_ hS_ hg184
      refine @wpG_tk _ _ _ _ _ (some 207) (.bool true) _ _ rfl (.call (f := 15) (args := #[.slice DM mM_ dcM, .slice (some ⟨g185, 0, none⟩) 2 2]) (by rfl) (fun W => by go_simp) (fun W hg => ((same_any _ _ _ [1, 6] _ _ _ [1, 6] W (SL.ofOwn ((S187.out.gr hg).ownr 6 rfl)) (SL.ofBlk (S187.out.gr hg) 0 rfl 1 2 (ic [1, 6]) rfl rfl (by decide))).mono (fun e w' h => ⟨h.1.trans (by rw [decide_eq_true rfl]), h.2⟩)))) ?_
      simp only [n1, n3, n4]
      refine @wpG_p _ _ _ _ _ (some 208) (.bool true) _ _ rfl (by rfl) (fun W => by go_simp) ?_
      simp only [n1, n3, n4]
      refine @wpG_p _ _ _ _ _ (some 209) (.bool true) _ _ rfl (by rfl) (fun _ => rfl) ?_
      simp only [n1, n3, n4]
      refine @wpG_p _ _ _ _ _ (some 210) (.int .i64 0) _ _ rfl (by rfl) (fun _ => rfl) ?_
      simp only [n1, n3, n4]
      refine @wpG_p _ _ _ _ _ (some 211) (.bool true) _ _ rfl (by rfl) (fun W => by go_simp) ?_
      simp only [n1, n3, n4]
      refine @wpG_p _ _ _ _ _ (some 212) (.bool true) _ _ rfl (by rfl) (fun W => by go_simp) ?_
      simp only [n1, n3, n4]
      refine @wpG_p _ _ _ _ _ (some 34) (.bool true) _ _ rfl (by rfl) (fun _ => rfl) ?_
      simp only [n1, n3, n4]
      refine wpG_done (fun V188 hv189 => ?_)
      have S190 : Hid (St w noB [blk g185 3 [.int .i64 1, .int .i64 6], blk g180 5 [.int .u8 0, .int .u8 2, .int .u8 0, .int .u8 0, .int .u8 0, .int .u8 0, .int .u8 0, .int .u8 0, .int .u8 1, .int .u8 1, .int .u8 6], blk g172 3 [.int .i64 7, .int .i64 7, .int .i64 3, .int .i64 7], blk g164 5 [.int .u8 0], blk g159 5 [.int .u8 3, .int .u8 3, .int .u8 9, .int .u8 8, .int .u8 7, .int .u8 36], blk g154 5 [.int .u8 4, .int .u8 2, .int .u8 7, .int .u8 3, .int .u8 4], own (.slice DM mM_ dcM) 3 1 mM_ (ic [1, 6]), own (.slice D11 m11_ dc11) 3 1 m11_ (ic Pl.sNew), own (.slice DP mP_ dcP) 3 1 mP_ (ic Pl.sNew), own (.slice (some ⟨g83, 0, none⟩) 64 64) 3 1 64 (ic Pl.sNew), own (.slice (some ⟨g75, 0, none⟩) 64 64) 3 1 64 (ic Pl.sOld), own (.slice D7 m7_ dc7) 3 1 m7_ (ic []), blk g62 5 [.int .u8 2, .int .u8 2, .int .u8 7, .int .u8 7, .int .u8 2], own (.slice D6 m6_ dc6) 3 1 m6_ (ic []), blk g50 5 [.int .u8 4, .int .u8 2, .int .u8 7, .int .u8 3, .int .u8 20], own (.slice D5 m5_ dc5) 3 1 m5_ (ic []), blk g38 5 [.int .u8 4, .int .u8 2, .int .u8 7, .int .u8 3], own (.slice D4 m4_ dc4) 3 1 m4_ (ic [7, 7, 3, 7]), blk g26 5 [.int .u8 4, .int .u8 2, .int .u8 7, .int .u8 3, .int .u8 4, .int .u8 99], blk g15 3 [.int .i64 9, .int .i64 8, .int .i64 7], blk g7 3 [.int .i64 7, .int .i64 7, .int .i64 3, .int .i64 7]] V188) := Lib.hid (S187.out.gr hv189)
      clear S187
      clear hv189
      refine ⟨rfl, hK _ _ ?_⟩
      clear hK
      go_upto_region 24 with fail
      refine wpG_region_k (fun K hK => ?_)
      refine @wpG_p _ _ _ _ _ (some 213) (.bool true) _ _ rfl (by rfl) (fun _ => rfl) ?_
      simp only [n1, n3, n4]
      refine @wpG_p _ _ _ _ _ (some 214) (.bool true) _ _ rfl (by rfl) (fun _ => rfl) ?_
      simp only [n1, n3, n4]
      refine @wpG_p _ _ _ _ _ (some 215) (.bool true) _ _ rfl (by rfl) (fun _ => rfl) ?_
      simp only [n1, n3, n4]
      refine @wpG_p _ _ _ _ _ (some 216) (.bool true) _ _ rfl (by rfl) (fun W => by go_simp) ?_
      simp only [n1, n3, n4]
      refine @wpG_p _ _ _ _ _ (some 217) (.bool true) _ _ rfl (by rfl) (fun _ => rfl) ?_
      simp only [n1, n3, n4]
      refine @wpG_p _ _ _ _ _ (some 218) (.bool true) _ _ rfl (by rfl) (fun _ => rfl) ?_
      simp only [n1, n3, n4]
      refine @wpG_p _ _ _ _ _ (some 219) (.bool true) _ _ rfl (by rfl) (fun W => by go_simp) ?_
      simp only [n1, n3, n4]
      refine @wpG_p _ _ _ _ _ (some 0) (.bool true) _ _ rfl (by rfl) (fun _ => rfl) ?_
      simp only [n1, n3]
      refine wpG_done (fun V191 hv192 => ?_)
      have S193 : Hid (St w noB [blk g185 3 [.int .i64 1, .int .i64 6], blk g180 5 [.int .u8 0, .int .u8 2, .int .u8 0, .int .u8 0, .int .u8 0, .int .u8 0, .int .u8 0, .int .u8 0, .int .u8 1, .int .u8 1, .int .u8 6], blk g172 3 [.int .i64 7, .int .i64 7, .int .i64 3, .int .i64 7], blk g164 5 [.int .u8 0], blk g159 5 [.int .u8 3, .int .u8 3, .int .u8 9, .int .u8 8, .int .u8 7, .int .u8 36], blk g154 5 [.int .u8 4, .int .u8 2, .int .u8 7, .int .u8 3, .int .u8 4], own (.slice DM mM_ dcM) 3 1 mM_ (ic [1, 6]), own (.slice D11 m11_ dc11) 3 1 m11_ (ic Pl.sNew), own (.slice DP mP_ dcP) 3 1 mP_ (ic Pl.sNew), own (.slice (some ⟨g83, 0, none⟩) 64 64) 3 1 64 (ic Pl.sNew), own (.slice (some ⟨g75, 0, none⟩) 64 64) 3 1 64 (ic Pl.sOld), own (.slice D7 m7_ dc7) 3 1 m7_ (ic []), blk g62 5 [.int .u8 2, .int .u8 2, .int .u8 7, .int .u8 7, .int .u8 2], own (.slice D6 m6_ dc6) 3 1 m6_ (ic []), blk g50 5 [.int .u8 4, .int .u8 2, .int .u8 7, .int .u8 3, .int .u8 20], own (.slice D5 m5_ dc5) 3 1 m5_ (ic []), blk g38 5 [.int .u8 4, .int .u8 2, .int .u8 7, .int .u8 3], own (.slice D4 m4_ dc4) 3 1 m4_ (ic [7, 7, 3, 7]), blk g26 5 [.int .u8 4, .int .u8 2, .int .u8 7, .int .u8 3, .int .u8 4, .int .u8 99], blk g15 3 [.int .i64 9, .int .i64 8, .int .i64 7], blk g7 3 [.int .i64 7, .int .i64 7, .int .i64 3, .int .i64 7]] V191) := Lib.hid (S190.out.gr hv192)
      clear S190
      clear hv192
      refine ⟨rfl, hK _ _ ?_⟩
      clear hK
      (repeat go_step)
      go_ret
      refine ⟨?_, S193.out.bel⟩
      show Ending.returned (.bool true) = _
      (first | rfl | (rfl))

end Go.Proofs.Ytfomieekdbkcnaa
