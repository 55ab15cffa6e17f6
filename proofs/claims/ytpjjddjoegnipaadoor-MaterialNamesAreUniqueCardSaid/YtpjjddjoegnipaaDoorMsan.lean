/-
  The documentation's examples hold.
-/
import Derived.Test.YtpjjddjoegnipaaDoorMah
import Derived.Handy
namespace Go.Proofs.YtpjjddjoegnipaaDoor
open Go Go.RowKit
set_option linter.unusedVariables false
set_option linter.unusedSimpArgs false
set_option maxRecDepth 1000000 in
set_option maxHeartbeats 4000000 in
theorem sanity_any (w : World) (hE : Ev w) :
    Calls Tryd.prog 9 #[] w fun e w' => e = .returned (.bool true) ∧ Below w.heap.size w w' := by
  have HE := Lib.hid hE
  have HK := Lib.hid hE.k
  clear hE
  have S1 : Hid (St w noB [] w) := Lib.hid (St.start w)
  go_enter Tryd.func9, Tryd.ntmps9
  go_upto_region 0 with fail
  refine wpG_region_k (fun K hK => ?_)
  refine @wpG_p _ _ _ _ _ (some 0) (.bool false) _ _ rfl (by rfl) (fun _ => rfl) ?_
  simp only [n1, n3]
  refine wpG_done (fun V2 hv3 => ?_)
  have S4 : Hid (St w noB [] V2) := Lib.hid (S1.out.gr hv3)
  clear S1
  clear hv3
  refine ⟨rfl, hK _ _ ?_⟩
  clear hK
  go_upto_region 1 with fail
  refine wpG_region_k (fun K hK => ?_)
  refine wpG_call (some 22) 20 #[] rfl (by rfl) (fun W => by go_simp) (fun W6 hg7 => ?_)
  refine (default_any W6).mono ?_
  rintro e w8 ⟨dg5, rfl, hS_⟩
  refine ⟨_, rfl, ?_⟩
  have hT_ := (S4.out.gr hg7).got hS_
  simp only [n1, n3, n4]
  have S9 : Hid (St w noB [own (.slice (some ⟨dg5, 0, none⟩) 9 9) 35 8 9 (mcs Ma.dflt)] w8) := Lib.hid hT_
  clear S4
  clear hT_ hS_ hg7
  refine @wpG_p _ _ _ _ _ (some 1) (.slice (some ⟨dg5, 0, none⟩) 9 9) _ _ rfl (by rfl) (fun _ => rfl) ?_
  simp only [n1, n3, n4]
  refine wpG_done (fun V10 hv11 => ?_)
  have S12 : Hid (St w noB [own (.slice (some ⟨dg5, 0, none⟩) 9 9) 35 8 9 (mcs Ma.dflt)] V10) := Lib.hid (S9.out.gr hv11)
  clear S9
  clear hv11
  refine ⟨rfl, hK _ _ ?_⟩
  clear hK
  go_upto_region 2 with fail
  refine wpG_region_k (fun K hK => ?_)
  refine @wpG_p _ _ _ _ _ (some 23) (.slice (some ⟨dg5, 0, none⟩) 9 9) _ _ rfl (by rfl) (fun _ => rfl) ?_
  simp only [n1, n3, n4]
  refine @wpG_p _ _ _ _ _ (some 24) (.int .i64 9) _ _ rfl (by rfl) (fun W => by go_simp) ?_
  simp only [n1, n3, n4]
  refine @wpG_p _ _ _ _ _ (some 25) (.bool false) _ _ rfl (by rfl) (fun W => by go_simp) ?_
  simp only [n1, n3, n4]
  refine wpG_done (fun V13 hv14 => ?_)
  have S15 : Hid (St w noB [own (.slice (some ⟨dg5, 0, none⟩) 9 9) 35 8 9 (mcs Ma.dflt)] V13) := Lib.hid (S12.out.gr hv14)
  clear S12
  clear hv14
  refine ⟨rfl, hK _ _ ?_⟩
  clear hK
  go_upto_region 4 with fail
  refine wpG_region_k (fun K hK => ?_)
  refine @wpG_p _ _ _ _ _ (some 27) (.slice (some ⟨dg5, 0, none⟩) 9 9) _ _ rfl (by rfl) (fun _ => rfl) ?_
  simp only [n1, n3, n4]
  refine @wpG_tk _ _ _ _ _ (some 28) (.tuple #[.int .i64 0, .int .i64 0]) _ _ rfl (.call (f := 11) (args := #[.slice (some ⟨dg5, 0, none⟩) 9 9]) (by rfl) (fun W => by go_simp) (fun W hg => ((check_any _ _ _ Ma.dflt W (Tbl.ofOwn ((S15.out.gr hg).ownr 0 rfl)) (HK.out.gr (S15.out.gr hg).bel)).mono (fun e w' h => ⟨h.1.trans (by kernel_rfl), h.2⟩)))) ?_
  simp only [n1, n3, n4]
  refine @wpG_p _ _ _ _ _ (some 26) (.tuple #[.int .i64 0, .int .i64 0]) _ _ rfl (by rfl) (fun _ => rfl) ?_
  simp only [n1, n3, n4]
  refine @wpG_p _ _ _ _ _ (some 29) (.int .i64 0) _ _ rfl (by rfl) (fun W => by go_simp) ?_
  simp only [n1, n3, n4]
  refine @wpG_p _ _ _ _ _ (some 30) (.int .i64 0) _ _ rfl (by rfl) (fun W => by go_simp) ?_
  simp only [n1, n3, n4]
  refine @wpG_p _ _ _ _ _ (some 2) (.int .i64 0) _ _ rfl (by rfl) (fun _ => rfl) ?_
  simp only [n1, n3, n4]
  refine @wpG_p _ _ _ _ _ (some 3) (.int .i64 0) _ _ rfl (by rfl) (fun _ => rfl) ?_
  simp only [n1, n3, n4]
  refine wpG_done (fun V16 hv17 => ?_)
  have S18 : Hid (St w noB [own (.slice (some ⟨dg5, 0, none⟩) 9 9) 35 8 9 (mcs Ma.dflt)] V16) := Lib.hid (S15.out.gr hv17)
  clear S15
  clear hv17
  refine ⟨rfl, hK _ _ ?_⟩
  clear hK
  go_upto_region 5 with fail
  refine wpG_region_k (fun K hK => ?_)
  refine @wpG_tk _ _ _ _ _ (some 32) (.tuple #[.int .i64 (-1), .int .i64 1]) _ _ rfl (.call (f := 11) (args := #[.slice none 0 0]) (by rfl) (fun W => by go_simp) (fun W hg => ((check_any _ _ _ [] W (Tbl.nil W 0 none (by decide)) (HK.out.gr (S18.out.gr hg).bel)).mono (fun e w' h => ⟨h.1.trans (by kernel_rfl), h.2⟩)))) ?_
  simp only [n1, n3, n4]
  refine @wpG_p _ _ _ _ _ (some 31) (.tuple #[.int .i64 (-1), .int .i64 1]) _ _ rfl (by rfl) (fun _ => rfl) ?_
  simp only [n1, n3, n4]
  refine @wpG_p _ _ _ _ _ (some 33) (.int .i64 (-1)) _ _ rfl (by rfl) (fun W => by go_simp) ?_
  simp only [n1, n3, n4]
  refine @wpG_p _ _ _ _ _ (some 34) (.int .i64 1) _ _ rfl (by rfl) (fun W => by go_simp) ?_
  simp only [n1, n3, n4]
  refine @wpG_p _ _ _ _ _ (some 4) (.int .i64 (-1)) _ _ rfl (by rfl) (fun _ => rfl) ?_
  simp only [n1, n3, n4]
  refine @wpG_p _ _ _ _ _ (some 5) (.int .i64 1) _ _ rfl (by rfl) (fun _ => rfl) ?_
  simp only [n1, n3, n4]
  refine wpG_done (fun V19 hv20 => ?_)
  have S21 : Hid (St w noB [own (.slice (some ⟨dg5, 0, none⟩) 9 9) 35 8 9 (mcs Ma.dflt)] V19) := Lib.hid (S18.out.gr hv20)
  clear S18
  clear hv20
  refine ⟨rfl, hK _ _ ?_⟩
  clear hK
  go_upto_region 6 with fail
  refine wpK_region_k (by kernel_rfl) (fun K hK => ?_)
  refine wpK_ta (i := 0) (some 36) (v := .slice (some ⟨dg5, 0, none⟩) 9 9) rfl rfl (by kernel_rfl) (fun _ _ _ h => onN_panic h) (Or.inl ⟨rfl, fun _ => rfl⟩) ?_
  simp only [n1, n3, n4]
  refine wpK_ta (i := 1) (some 37) (v := .pointer (some ⟨dg5, 0, none⟩)) rfl rfl (by kernel_rfl) (fun _ _ _ h => onN_panic h) (Or.inl ⟨by rfl, fun W => by (go_simp <;> first | rfl | omega | (simp; omega))⟩) ?_
  simp only [n1, n3, n4]
  refine wpK_ta (i := 3) (some 39) (v := .slice (some ⟨dg5, 0, none⟩) 9 9) rfl rfl (by kernel_rfl) (fun _ _ _ h => onN_panic h) (Or.inl ⟨rfl, fun _ => rfl⟩) ?_
  simp only [n1, n3, n4]
  refine wpK_ta (i := 4) (some 40) (v := .pointer (some ⟨dg5, 0, none⟩)) rfl rfl (by kernel_rfl) (fun _ _ _ h => onN_panic h) (Or.inl ⟨by rfl, fun W => by (go_simp <;> first | rfl | omega | (simp; omega))⟩) ?_
  simp only [n1, n3, n4]
  refine wpK_tk (i := 2) (some 38) (v := .agg #[.string (bstr [97, 105, 114]), .bool false, .bool false, .bool false, .int .i64 1, .int .i64 0, .int .i64 0, .int .i64 0]) rfl rfl (by kernel_rfl) (fun _ _ _ h => onN_panic h) (.load_mid (by rfl) 35 (.tmp 37) rfl dg5 0 rfl [.string (bstr [97, 105, 114]), .bool false, .bool false, .bool false, .int .i64 1, .int .i64 0, .int .i64 0, .int .i64 0] _ (fun W hg => (read_mc ((S21.out.gr (Gr.un hg)).liesOwn 0 rfl) 0 rfl)) Tryd.underlying35 rfl (by kernel_rfl)) ?_
  simp only [n1, n3, n4]
  refine wpK_tk (i := 5) (some 41) (v := .agg #[.string (bstr [97, 105, 114]), .bool false, .bool false, .bool false, .int .i64 1, .int .i64 0, .int .i64 0, .int .i64 0]) rfl rfl (by kernel_rfl) (fun _ _ _ h => onN_panic h) (.load_mid (by rfl) 35 (.tmp 40) rfl dg5 0 rfl [.string (bstr [97, 105, 114]), .bool false, .bool false, .bool false, .int .i64 1, .int .i64 0, .int .i64 0, .int .i64 0] _ (fun W hg => (read_mc ((S21.out.gr (Gr.un hg)).liesOwn 0 rfl) 0 rfl)) Tryd.underlying35 rfl (by kernel_rfl)) ?_
  simp only [n1, n3, n4]
  refine wpK_val (i := 6) (some 42) rfl rfl (by kernel_rfl) (by rfl) (fun W22 hg23 => ⟨.slice (some ⟨W22.heap.size, 0, none⟩) 2 2, W22.alloc (.cells #[.string (bstr [97, 105, 114]), .bool false, .bool false, .bool false, .int .i64 1, .int .i64 0, .int .i64 0, .int .i64 0, .string (bstr [97, 105, 114]), .bool false, .bool false, .bool false, .int .i64 1, .int .i64 0, .int .i64 0, .int .i64 0] 35), by (go_simp <;> rfl), Gr.al _ _, ?_⟩)
  simp only [n1, n3, n4]
  obtain ⟨g24, U25, hg_, hu_, hS_⟩ := (S21.out.gr (Gr.un hg23)).made [.string (bstr [97, 105, 114]), .bool false, .bool false, .bool false, .int .i64 1, .int .i64 0, .int .i64 0, .int .i64 0, .string (bstr [97, 105, 114]), .bool false, .bool false, .bool false, .int .i64 1, .int .i64 0, .int .i64 0, .int .i64 0] 35
  rw [← hu_, ← hg_]
  have S26 : Hid (St w noB [blk g24 35 [.string (bstr [97, 105, 114]), .bool false, .bool false, .bool false, .int .i64 1, .int .i64 0, .int .i64 0, .int .i64 0, .string (bstr [97, 105, 114]), .bool false, .bool false, .bool false, .int .i64 1, .int .i64 0, .int .i64 0, .int .i64 0], own (.slice (some ⟨dg5, 0, none⟩) 9 9) 35 8 9 (mcs Ma.dflt)] U25) := Lib.hid hS_
  clear S21
  clear hg_ hu_ hS_ hg23
  refine wpK_tk (i := 7) (some 43) (v := .tuple #[.int .i64 1, .int .i64 10]) rfl rfl (by kernel_rfl) (fun _ _ _ h => onN_panic h) (.call (f := 11) (args := #[.slice (some ⟨g24, 0, none⟩) 2 2]) (by rfl) (fun W => by go_simp) (fun W hg => ((check_any _ _ _ [Ma.air, Ma.air] W (Tbl.ofBlk (S26.out.gr hg) 0 rfl [Ma.air, Ma.air] 2 rfl rfl (by decide)) (HK.out.gr (S26.out.gr hg).bel)).mono (fun e w' h => ⟨h.1.trans (by kernel_rfl), h.2⟩)))) ?_
  simp only [n1, n3, n4]
  refine wpK_ta (i := 8) (some 35) (v := .tuple #[.int .i64 1, .int .i64 10]) rfl rfl (by kernel_rfl) (fun _ _ _ h => onN_panic h) (Or.inl ⟨rfl, fun _ => rfl⟩) ?_
  simp only [n1, n3, n4]
  refine wpK_ta (i := 9) (some 44) (v := .int .i64 1) rfl rfl (by kernel_rfl) (fun _ _ _ h => onN_panic h) (Or.inl ⟨by rfl, fun W => by go_simp⟩) ?_
  simp only [n1, n3, n4]
  refine wpK_ta (i := 10) (some 45) (v := .int .i64 10) rfl rfl (by kernel_rfl) (fun _ _ _ h => onN_panic h) (Or.inl ⟨by rfl, fun W => by go_simp⟩) ?_
  simp only [n1, n3, n4]
  refine wpK_ta (i := 11) (some 6) (v := .int .i64 1) rfl rfl (by kernel_rfl) (fun _ _ _ h => onN_panic h) (Or.inl ⟨rfl, fun _ => rfl⟩) ?_
  simp only [n1, n3, n4]
  refine wpK_ta (i := 12) (some 7) (v := .int .i64 10) rfl rfl (by kernel_rfl) (fun _ _ _ h => onN_panic h) (Or.inl ⟨rfl, fun _ => rfl⟩) ?_
  simp only [n1, n3, n4]
  refine wpK_done (by kernel_rfl) (fun V27 hv28 => ?_) _
  have S29 : Hid (St w noB [blk g24 35 [.string (bstr [97, 105, 114]), .bool false, .bool false, .bool false, .int .i64 1, .int .i64 0, .int .i64 0, .int .i64 0, .string (bstr [97, 105, 114]), .bool false, .bool false, .bool false, .int .i64 1, .int .i64 0, .int .i64 0, .int .i64 0], own (.slice (some ⟨dg5, 0, none⟩) 9 9) 35 8 9 (mcs Ma.dflt)] V27) := Lib.hid (S26.out.gr hv28)
  clear S26
  clear hv28
  refine ⟨rfl, hK _ _ ?_⟩
  clear hK
  go_upto_region 7 with fail
  refine wpK_region_k (by kernel_rfl) (fun K hK => ?_)
  refine wpK_ta (i := 0) (some 47) (v := .slice (some ⟨dg5, 0, none⟩) 9 9) rfl rfl (by kernel_rfl) (fun _ _ _ h => onN_panic h) (Or.inl ⟨rfl, fun _ => rfl⟩) ?_
  simp only [n1, n3, n4]
  refine wpK_ta (i := 1) (some 48) (v := .pointer (some ⟨dg5, 0, none⟩)) rfl rfl (by kernel_rfl) (fun _ _ _ h => onN_panic h) (Or.inl ⟨by rfl, fun W => by (go_simp <;> first | rfl | omega | (simp; omega))⟩) ?_
  simp only [n1, n3, n4]
  refine wpK_ta (i := 3) (some 50) (v := .slice (some ⟨dg5, 0, none⟩) 9 9) rfl rfl (by kernel_rfl) (fun _ _ _ h => onN_panic h) (Or.inl ⟨rfl, fun _ => rfl⟩) ?_
  simp only [n1, n3, n4]
  refine wpK_ta (i := 4) (some 51) (v := .pointer (some ⟨dg5, 24, none⟩)) rfl rfl (by kernel_rfl) (fun _ _ _ h => onN_panic h) (Or.inl ⟨by rfl, fun W => by (go_simp <;> first | rfl | omega | (simp; omega))⟩) ?_
  simp only [n1, n3, n4]
  refine wpK_tk (i := 2) (some 49) (v := .agg #[.string (bstr [97, 105, 114]), .bool false, .bool false, .bool false, .int .i64 1, .int .i64 0, .int .i64 0, .int .i64 0]) rfl rfl (by kernel_rfl) (fun _ _ _ h => onN_panic h) (.load_mid (by rfl) 35 (.tmp 48) rfl dg5 0 rfl [.string (bstr [97, 105, 114]), .bool false, .bool false, .bool false, .int .i64 1, .int .i64 0, .int .i64 0, .int .i64 0] _ (fun W hg => (read_mc ((S29.out.gr (Gr.un hg)).liesOwn 1 rfl) 0 rfl)) Tryd.underlying35 rfl (by kernel_rfl)) ?_
  simp only [n1, n3, n4]
  refine wpK_tk (i := 5) (some 52) (v := .agg #[.string (bstr [108, 97, 109, 112]), .bool true, .bool false, .bool false, .int .i64 16, .int .i64 15, .int .i64 14, .int .i64 10]) rfl rfl (by kernel_rfl) (fun _ _ _ h => onN_panic h) (.load_mid (by rfl) 35 (.tmp 51) rfl dg5 24 rfl [.string (bstr [108, 97, 109, 112]), .bool true, .bool false, .bool false, .int .i64 16, .int .i64 15, .int .i64 14, .int .i64 10] _ (fun W hg => (read_mc ((S29.out.gr (Gr.un hg)).liesOwn 1 rfl) 3 rfl)) Tryd.underlying35 rfl (by kernel_rfl)) ?_
  simp only [n1, n3, n4]
  refine wpK_val (i := 6) (some 53) rfl rfl (by kernel_rfl) (by rfl) (fun W30 hg31 => ⟨.slice (some ⟨W30.heap.size, 0, none⟩) 2 2, W30.alloc (.cells #[.string (bstr [97, 105, 114]), .bool false, .bool false, .bool false, .int .i64 1, .int .i64 0, .int .i64 0, .int .i64 0, .string (bstr [108, 97, 109, 112]), .bool true, .bool false, .bool false, .int .i64 16, .int .i64 15, .int .i64 14, .int .i64 10] 35), by (go_simp <;> rfl), Gr.al _ _, ?_⟩)
  simp only [n1, n3, n4]
  obtain ⟨g32, U33, hg_, hu_, hS_⟩ := (S29.out.gr (Gr.un hg31)).made [.string (bstr [97, 105, 114]), .bool false, .bool false, .bool false, .int .i64 1, .int .i64 0, .int .i64 0, .int .i64 0, .string (bstr [108, 97, 109, 112]), .bool true, .bool false, .bool false, .int .i64 16, .int .i64 15, .int .i64 14, .int .i64 10] 35
  rw [← hu_, ← hg_]
  have S34 : Hid (St w noB [blk g32 35 [.string (bstr [97, 105, 114]), .bool false, .bool false, .bool false, .int .i64 1, .int .i64 0, .int .i64 0, .int .i64 0, .string (bstr [108, 97, 109, 112]), .bool true, .bool false, .bool false, .int .i64 16, .int .i64 15, .int .i64 14, .int .i64 10], blk g24 35 [.string (bstr [97, 105, 114]), .bool false, .bool false, .bool false, .int .i64 1, .int .i64 0, .int .i64 0, .int .i64 0, .string (bstr [97, 105, 114]), .bool false, .bool false, .bool false, .int .i64 1, .int .i64 0, .int .i64 0, .int .i64 0], own (.slice (some ⟨dg5, 0, none⟩) 9 9) 35 8 9 (mcs Ma.dflt)] U33) := Lib.hid hS_
  clear S29
  clear hg_ hu_ hS_ hg31
  refine wpK_tk (i := 7) (some 54) (v := .tuple #[.string (bstr [97, 105, 114, 32, 103, 97, 115, 32, 102, 97, 100, 101, 32, 49, 10, 108, 97, 109, 112, 32, 115, 111, 108, 105, 100, 32, 102, 97, 100, 101, 32, 49, 54, 32, 101, 109, 105, 116, 32, 49, 53, 32, 49, 52, 32, 49, 48, 10]), .int .i64 0]) rfl rfl (by kernel_rfl) (fun _ _ _ h => onN_panic h) (.call (f := 13) (args := #[.slice (some ⟨g32, 0, none⟩) 2 2]) (by rfl) (fun W => by go_simp) (fun W hg => ((print_any _ _ _ [Ma.air, Ma.lamp] W (Tbl.ofBlk (S34.out.gr hg) 0 rfl [Ma.air, Ma.lamp] 2 rfl rfl (by decide)) (HK.out.gr (S34.out.gr hg).bel)).mono (fun e w' h => ⟨h.1.trans (by kernel_rfl), h.2⟩)))) ?_
  simp only [n1, n3, n4]
  refine wpK_ta (i := 8) (some 46) (v := .tuple #[.string (bstr [97, 105, 114, 32, 103, 97, 115, 32, 102, 97, 100, 101, 32, 49, 10, 108, 97, 109, 112, 32, 115, 111, 108, 105, 100, 32, 102, 97, 100, 101, 32, 49, 54, 32, 101, 109, 105, 116, 32, 49, 53, 32, 49, 52, 32, 49, 48, 10]), .int .i64 0]) rfl rfl (by kernel_rfl) (fun _ _ _ h => onN_panic h) (Or.inl ⟨rfl, fun _ => rfl⟩) ?_
  simp only [n1, n3, n4]
  refine wpK_ta (i := 9) (some 55) (v := .string (bstr [97, 105, 114, 32, 103, 97, 115, 32, 102, 97, 100, 101, 32, 49, 10, 108, 97, 109, 112, 32, 115, 111, 108, 105, 100, 32, 102, 97, 100, 101, 32, 49, 54, 32, 101, 109, 105, 116, 32, 49, 53, 32, 49, 52, 32, 49, 48, 10])) rfl rfl (by kernel_rfl) (fun _ _ _ h => onN_panic h) (Or.inl ⟨by rfl, fun W => by go_simp⟩) ?_
  simp only [n1, n3, n4]
  refine wpK_ta (i := 10) (some 56) (v := .int .i64 0) rfl rfl (by kernel_rfl) (fun _ _ _ h => onN_panic h) (Or.inl ⟨by rfl, fun W => by go_simp⟩) ?_
  simp only [n1, n3, n4]
  refine wpK_ta (i := 11) (some 8) (v := .string (bstr [97, 105, 114, 32, 103, 97, 115, 32, 102, 97, 100, 101, 32, 49, 10, 108, 97, 109, 112, 32, 115, 111, 108, 105, 100, 32, 102, 97, 100, 101, 32, 49, 54, 32, 101, 109, 105, 116, 32, 49, 53, 32, 49, 52, 32, 49, 48, 10])) rfl rfl (by kernel_rfl) (fun _ _ _ h => onN_panic h) (Or.inl ⟨rfl, fun _ => rfl⟩) ?_
  simp only [n1, n3, n4]
  refine wpK_ta (i := 12) (some 9) (v := .int .i64 0) rfl rfl (by kernel_rfl) (fun _ _ _ h => onN_panic h) (Or.inl ⟨rfl, fun _ => rfl⟩) ?_
  simp only [n1, n3, n4]
  refine wpK_done (by kernel_rfl) (fun V35 hv36 => ?_) _
  have S37 : Hid (St w noB [blk g32 35 [.string (bstr [97, 105, 114]), .bool false, .bool false, .bool false, .int .i64 1, .int .i64 0, .int .i64 0, .int .i64 0, .string (bstr [108, 97, 109, 112]), .bool true, .bool false, .bool false, .int .i64 16, .int .i64 15, .int .i64 14, .int .i64 10], blk g24 35 [.string (bstr [97, 105, 114]), .bool false, .bool false, .bool false, .int .i64 1, .int .i64 0, .int .i64 0, .int .i64 0, .string (bstr [97, 105, 114]), .bool false, .bool false, .bool false, .int .i64 1, .int .i64 0, .int .i64 0, .int .i64 0], own (.slice (some ⟨dg5, 0, none⟩) 9 9) 35 8 9 (mcs Ma.dflt)] V35) := Lib.hid (S34.out.gr hv36)
  clear S34
  clear hv36
  refine ⟨rfl, hK _ _ ?_⟩
  clear hK
  go_upto_region 8 with fail
  refine wpG_region_k (fun K hK => ?_)
  refine @wpG_p _ _ _ _ _ (some 58) (.string (bstr [97, 105, 114, 32, 103, 97, 115, 32, 102, 97, 100, 101, 32, 49, 10, 108, 97, 109, 112, 32, 115, 111, 108, 105, 100, 32, 102, 97, 100, 101, 32, 49, 54, 32, 101, 109, 105, 116, 32, 49, 53, 32, 49, 52, 32, 49, 48, 10])) _ _ rfl (by rfl) (fun _ => rfl) ?_
  simp only [n1, n3, n4]
  refine wpG_call (some 59) 27 #[.string (bstr [97, 105, 114, 32, 103, 97, 115, 32, 102, 97, 100, 101, 32, 49, 10, 108, 97, 109, 112, 32, 115, 111, 108, 105, 100, 32, 102, 97, 100, 101, 32, 49, 54, 32, 101, 109, 105, 116, 32, 49, 53, 32, 49, 52, 32, 49, 48, 10])] rfl (by rfl) (fun W => by go_simp) (fun W41 hg42 => ?_)
  refine (parse_v [97, 105, 114, 32, 103, 97, 115, 32, 102, 97, 100, 101, 32, 49, 10, 108, 97, 109, 112, 32, 115, 111, 108, 105, 100, 32, 102, 97, 100, 101, 32, 49, 54, 32, 101, 109, 105, 116, 32, 49, 53, 32, 49, 52, 32, 49, 48, 10] [Ma.air, Ma.lamp] 0 0 W41 Ma.p2 (by decide) (HE.out.st (S37.out.gr hg42) noGlob)).mono ?_
  rintro e w43 ⟨pA38, pn39, pc40, rfl, hS_⟩
  refine ⟨_, rfl, ?_⟩
  have hT_ := (S37.out.gr hg42).got hS_
  simp only [n1, n3, n4]
  have S44 : Hid (St w noB [own (.slice pA38 pn39 pc40) 35 8 pn39 (mcs [Ma.air, Ma.lamp]), blk g32 35 [.string (bstr [97, 105, 114]), .bool false, .bool false, .bool false, .int .i64 1, .int .i64 0, .int .i64 0, .int .i64 0, .string (bstr [108, 97, 109, 112]), .bool true, .bool false, .bool false, .int .i64 16, .int .i64 15, .int .i64 14, .int .i64 10], blk g24 35 [.string (bstr [97, 105, 114]), .bool false, .bool false, .bool false, .int .i64 1, .int .i64 0, .int .i64 0, .int .i64 0, .string (bstr [97, 105, 114]), .bool false, .bool false, .bool false, .int .i64 1, .int .i64 0, .int .i64 0, .int .i64 0], own (.slice (some ⟨dg5, 0, none⟩) 9 9) 35 8 9 (mcs Ma.dflt)] w43) := Lib.hid hT_
  clear S37
  clear hT_ hS_ hg42
  refine @wpG_p _ _ _ _ _ (some 57) (.tuple #[.slice pA38 pn39 pc40, .int .i64 0, .int .i64 0]) _ _ rfl (by rfl) (fun _ => rfl) ?_
  simp only [n1, n3, n4]
  refine @wpG_p _ _ _ _ _ (some 60) (.slice pA38 pn39 pc40) _ _ rfl (by rfl) (fun W => by go_simp) ?_
  simp only [n1, n3, n4]
  refine @wpG_p _ _ _ _ _ (some 61) (.int .i64 0) _ _ rfl (by rfl) (fun W => by go_simp) ?_
  simp only [n1, n3, n4]
  refine @wpG_p _ _ _ _ _ (some 62) (.int .i64 0) _ _ rfl (by rfl) (fun W => by go_simp) ?_
  simp only [n1, n3, n4]
  refine @wpG_p _ _ _ _ _ (some 10) (.slice pA38 pn39 pc40) _ _ rfl (by rfl) (fun _ => rfl) ?_
  simp only [n1, n3, n4]
  refine @wpG_p _ _ _ _ _ (some 11) (.int .i64 0) _ _ rfl (by rfl) (fun _ => rfl) ?_
  simp only [n1, n3, n4]
  refine @wpG_p _ _ _ _ _ (some 12) (.int .i64 0) _ _ rfl (by rfl) (fun _ => rfl) ?_
  simp only [n1, n3, n4]
  refine wpG_done (fun V45 hv46 => ?_)
  have S47 : Hid (St w noB [own (.slice pA38 pn39 pc40) 35 8 pn39 (mcs [Ma.air, Ma.lamp]), blk g32 35 [.string (bstr [97, 105, 114]), .bool false, .bool false, .bool false, .int .i64 1, .int .i64 0, .int .i64 0, .int .i64 0, .string (bstr [108, 97, 109, 112]), .bool true, .bool false, .bool false, .int .i64 16, .int .i64 15, .int .i64 14, .int .i64 10], blk g24 35 [.string (bstr [97, 105, 114]), .bool false, .bool false, .bool false, .int .i64 1, .int .i64 0, .int .i64 0, .int .i64 0, .string (bstr [97, 105, 114]), .bool false, .bool false, .bool false, .int .i64 1, .int .i64 0, .int .i64 0, .int .i64 0], own (.slice (some ⟨dg5, 0, none⟩) 9 9) 35 8 9 (mcs Ma.dflt)] V45) := Lib.hid (S44.out.gr hv46)
  clear S44
  clear hv46
  refine ⟨rfl, hK _ _ ?_⟩
  clear hK
  go_upto_region 9 with fail
  refine wpG_region_k (fun K hK => ?_)
  refine wpG_call (some 64) 27 #[.string ⟨#[97, 105, 114, 32, 103, 97, 115, 32, 102, 97, 100, 101, 32, 48, 49, 10]⟩] rfl (by rfl) (fun W => by go_simp) (fun W51 hg52 => ?_)
  refine (parse_v [97, 105, 114, 32, 103, 97, 115, 32, 102, 97, 100, 101, 32, 48, 49, 10] [] 1 3 W51 Ma.p01 (by decide) (HE.out.st (S47.out.gr hg52) noGlob)).mono ?_
  rintro e w53 ⟨pA48, pn49, pc50, rfl, hS_⟩
  refine ⟨_, rfl, ?_⟩
  have hT_ := (S47.out.gr hg52).got hS_
  simp only [n1, n3, n4]
  have S54 : Hid (St w noB [own (.slice pA48 pn49 pc50) 35 8 pn49 (mcs []), own (.slice pA38 pn39 pc40) 35 8 pn39 (mcs [Ma.air, Ma.lamp]), blk g32 35 [.string (bstr [97, 105, 114]), .bool false, .bool false, .bool false, .int .i64 1, .int .i64 0, .int .i64 0, .int .i64 0, .string (bstr [108, 97, 109, 112]), .bool true, .bool false, .bool false, .int .i64 16, .int .i64 15, .int .i64 14, .int .i64 10], blk g24 35 [.string (bstr [97, 105, 114]), .bool false, .bool false, .bool false, .int .i64 1, .int .i64 0, .int .i64 0, .int .i64 0, .string (bstr [97, 105, 114]), .bool false, .bool false, .bool false, .int .i64 1, .int .i64 0, .int .i64 0, .int .i64 0], own (.slice (some ⟨dg5, 0, none⟩) 9 9) 35 8 9 (mcs Ma.dflt)] w53) := Lib.hid hT_
  clear S47
  clear hT_ hS_ hg52
  refine @wpG_p _ _ _ _ _ (some 63) (.tuple #[.slice pA48 pn49 pc50, .int .i64 1, .int .i64 3]) _ _ rfl (by rfl) (fun _ => rfl) ?_
  simp only [n1, n3, n4]
  refine @wpG_p _ _ _ _ _ (some 65) (.slice pA48 pn49 pc50) _ _ rfl (by rfl) (fun W => by go_simp) ?_
  simp only [n1, n3, n4]
  refine @wpG_p _ _ _ _ _ (some 66) (.int .i64 1) _ _ rfl (by rfl) (fun W => by go_simp) ?_
  simp only [n1, n3, n4]
  refine @wpG_p _ _ _ _ _ (some 67) (.int .i64 3) _ _ rfl (by rfl) (fun W => by go_simp) ?_
  simp only [n1, n3, n4]
  refine @wpG_p _ _ _ _ _ (some 13) (.slice pA48 pn49 pc50) _ _ rfl (by rfl) (fun _ => rfl) ?_
  simp only [n1, n3, n4]
  refine @wpG_p _ _ _ _ _ (some 14) (.int .i64 1) _ _ rfl (by rfl) (fun _ => rfl) ?_
  simp only [n1, n3, n4]
  refine @wpG_p _ _ _ _ _ (some 15) (.int .i64 3) _ _ rfl (by rfl) (fun _ => rfl) ?_
  simp only [n1, n3, n4]
  refine wpG_done (fun V55 hv56 => ?_)
  have S57 : Hid (St w noB [own (.slice pA48 pn49 pc50) 35 8 pn49 (mcs []), own (.slice pA38 pn39 pc40) 35 8 pn39 (mcs [Ma.air, Ma.lamp]), blk g32 35 [.string (bstr [97, 105, 114]), .bool false, .bool false, .bool false, .int .i64 1, .int .i64 0, .int .i64 0, .int .i64 0, .string (bstr [108, 97, 109, 112]), .bool true, .bool false, .bool false, .int .i64 16, .int .i64 15, .int .i64 14, .int .i64 10], blk g24 35 [.string (bstr [97, 105, 114]), .bool false, .bool false, .bool false, .int .i64 1, .int .i64 0, .int .i64 0, .int .i64 0, .string (bstr [97, 105, 114]), .bool false, .bool false, .bool false, .int .i64 1, .int .i64 0, .int .i64 0, .int .i64 0], own (.slice (some ⟨dg5, 0, none⟩) 9 9) 35 8 9 (mcs Ma.dflt)] V55) := Lib.hid (S54.out.gr hv56)
  clear S54
  clear hv56
  refine ⟨rfl, hK _ _ ?_⟩
  clear hK
  go_upto_region 10 with fail
  refine wpG_region_k (fun K hK => ?_)
  refine wpG_call (some 69) 27 #[.string ⟨#[97, 105, 114, 32, 103, 97, 115, 32, 102, 97, 100, 101, 32, 50, 10]⟩] rfl (by rfl) (fun W => by go_simp) (fun W61 hg62 => ?_)
  refine (parse_v [97, 105, 114, 32, 103, 97, 115, 32, 102, 97, 100, 101, 32, 50, 10] [] 1 1 W61 Ma.pb2 (by decide) (HE.out.st (S57.out.gr hg62) noGlob)).mono ?_
  rintro e w63 ⟨pA58, pn59, pc60, rfl, hS_⟩
  refine ⟨_, rfl, ?_⟩
  have hT_ := (S57.out.gr hg62).got hS_
  simp only [n1, n3, n4]
  have S64 : Hid (St w noB [own (.slice pA58 pn59 pc60) 35 8 pn59 (mcs []), own (.slice pA48 pn49 pc50) 35 8 pn49 (mcs []), own (.slice pA38 pn39 pc40) 35 8 pn39 (mcs [Ma.air, Ma.lamp]), blk g32 35 [.string (bstr [97, 105, 114]), .bool false, .bool false, .bool false, .int .i64 1, .int .i64 0, .int .i64 0, .int .i64 0, .string (bstr [108, 97, 109, 112]), .bool true, .bool false, .bool false, .int .i64 16, .int .i64 15, .int .i64 14, .int .i64 10], blk g24 35 [.string (bstr [97, 105, 114]), .bool false, .bool false, .bool false, .int .i64 1, .int .i64 0, .int .i64 0, .int .i64 0, .string (bstr [97, 105, 114]), .bool false, .bool false, .bool false, .int .i64 1, .int .i64 0, .int .i64 0, .int .i64 0], own (.slice (some ⟨dg5, 0, none⟩) 9 9) 35 8 9 (mcs Ma.dflt)] w63) := Lib.hid hT_
  clear S57
  clear hT_ hS_ hg62
  refine @wpG_p _ _ _ _ _ (some 68) (.tuple #[.slice pA58 pn59 pc60, .int .i64 1, .int .i64 1]) _ _ rfl (by rfl) (fun _ => rfl) ?_
  simp only [n1, n3, n4]
  refine @wpG_p _ _ _ _ _ (some 70) (.slice pA58 pn59 pc60) _ _ rfl (by rfl) (fun W => by go_simp) ?_
  simp only [n1, n3, n4]
  refine @wpG_p _ _ _ _ _ (some 71) (.int .i64 1) _ _ rfl (by rfl) (fun W => by go_simp) ?_
  simp only [n1, n3, n4]
  refine @wpG_p _ _ _ _ _ (some 72) (.int .i64 1) _ _ rfl (by rfl) (fun W => by go_simp) ?_
  simp only [n1, n3, n4]
  refine @wpG_p _ _ _ _ _ (some 16) (.slice pA58 pn59 pc60) _ _ rfl (by rfl) (fun _ => rfl) ?_
  simp only [n1, n3, n4]
  refine @wpG_p _ _ _ _ _ (some 17) (.int .i64 1) _ _ rfl (by rfl) (fun _ => rfl) ?_
  simp only [n1, n3, n4]
  refine @wpG_p _ _ _ _ _ (some 18) (.int .i64 1) _ _ rfl (by rfl) (fun _ => rfl) ?_
  simp only [n1, n3, n4]
  refine wpG_done (fun V65 hv66 => ?_)
  have S67 : Hid (St w noB [own (.slice pA58 pn59 pc60) 35 8 pn59 (mcs []), own (.slice pA48 pn49 pc50) 35 8 pn49 (mcs []), own (.slice pA38 pn39 pc40) 35 8 pn39 (mcs [Ma.air, Ma.lamp]), blk g32 35 [.string (bstr [97, 105, 114]), .bool false, .bool false, .bool false, .int .i64 1, .int .i64 0, .int .i64 0, .int .i64 0, .string (bstr [108, 97, 109, 112]), .bool true, .bool false, .bool false, .int .i64 16, .int .i64 15, .int .i64 14, .int .i64 10], blk g24 35 [.string (bstr [97, 105, 114]), .bool false, .bool false, .bool false, .int .i64 1, .int .i64 0, .int .i64 0, .int .i64 0, .string (bstr [97, 105, 114]), .bool false, .bool false, .bool false, .int .i64 1, .int .i64 0, .int .i64 0, .int .i64 0], own (.slice (some ⟨dg5, 0, none⟩) 9 9) 35 8 9 (mcs Ma.dflt)] V65) := Lib.hid (S64.out.gr hv66)
  clear S64
  clear hv66
  refine ⟨rfl, hK _ _ ?_⟩
  clear hK
  go_upto_region 11 with fail
  refine wpG_region_k (fun K hK => ?_)
  refine @wpG_p _ _ _ _ _ (some 74) (.slice (some ⟨dg5, 0, none⟩) 9 9) _ _ rfl (by rfl) (fun _ => rfl) ?_
  simp only [n1, n3, n4]
  refine @wpG_tk _ _ _ _ _ (some 75) (.tuple #[.int .i64 5, .bool true]) _ _ rfl (.call (f := 17) (args := #[.slice (some ⟨dg5, 0, none⟩) 9 9, .string ⟨#[119, 97, 116, 101, 114]⟩]) (by rfl) (fun W => by go_simp) (fun W hg => ((find_any _ _ _ Ma.dflt [119, 97, 116, 101, 114] W (Tbl.ofOwn ((S67.out.gr hg).ownr 5 rfl))).mono (fun e w' h => ⟨h.1.trans (by kernel_rfl), h.2⟩)))) ?_
  simp only [n1, n3, n4]
  refine @wpG_p _ _ _ _ _ (some 73) (.tuple #[.int .i64 5, .bool true]) _ _ rfl (by rfl) (fun _ => rfl) ?_
  simp only [n1, n3, n4]
  refine @wpG_p _ _ _ _ _ (some 76) (.int .i64 5) _ _ rfl (by rfl) (fun W => by go_simp) ?_
  simp only [n1, n3, n4]
  refine @wpG_p _ _ _ _ _ (some 77) (.bool true) _ _ rfl (by rfl) (fun W => by go_simp) ?_
  simp only [n1, n3, n4]
  refine @wpG_p _ _ _ _ _ (some 19) (.int .i64 5) _ _ rfl (by rfl) (fun _ => rfl) ?_
  simp only [n1, n3, n4]
  refine @wpG_p _ _ _ _ _ (some 20) (.bool true) _ _ rfl (by rfl) (fun _ => rfl) ?_
  simp only [n1, n3, n4]
  refine wpG_done (fun V68 hv69 => ?_)
  have S70 : Hid (St w noB [own (.slice pA58 pn59 pc60) 35 8 pn59 (mcs []), own (.slice pA48 pn49 pc50) 35 8 pn49 (mcs []), own (.slice pA38 pn39 pc40) 35 8 pn39 (mcs [Ma.air, Ma.lamp]), blk g32 35 [.string (bstr [97, 105, 114]), .bool false, .bool false, .bool false, .int .i64 1, .int .i64 0, .int .i64 0, .int .i64 0, .string (bstr [108, 97, 109, 112]), .bool true, .bool false, .bool false, .int .i64 16, .int .i64 15, .int .i64 14, .int .i64 10], blk g24 35 [.string (bstr [97, 105, 114]), .bool false, .bool false, .bool false, .int .i64 1, .int .i64 0, .int .i64 0, .int .i64 0, .string (bstr [97, 105, 114]), .bool false, .bool false, .bool false, .int .i64 1, .int .i64 0, .int .i64 0, .int .i64 0], own (.slice (some ⟨dg5, 0, none⟩) 9 9) 35 8 9 (mcs Ma.dflt)] V68) := Lib.hid (S67.out.gr hv69)
  clear S67
  clear hv69
  refine ⟨rfl, hK _ _ ?_⟩
  clear hK
  go_upto_region 12 with fail
  refine wpG_region_k (fun K hK => ?_)
  refine @wpG_p _ _ _ _ _ (some 78) (.int .i64 0) _ _ rfl (by rfl) (fun _ => rfl) ?_
  simp only [n1, n3, n4]
  refine @wpG_p _ _ _ _ _ (some 79) (.bool false) _ _ rfl (by rfl) (fun W => by go_simp) ?_
  simp only [n1, n3, n4]
  refine @wpG_p _ _ _ _ _ (some 80) (.bool false) _ _ rfl (by rfl) (fun _ => rfl) ?_
  simp only [n1, n3, n4]
  refine @wpG_p _ _ _ _ _ (some 81) (.int .i64 1) _ _ rfl (by rfl) (fun _ => rfl) ?_
  simp only [n1, n3, n4]
  refine @wpG_p _ _ _ _ _ (some 82) (.bool false) _ _ rfl (by rfl) (fun W => by go_simp) ?_
  simp only [n1, n3, n4]
  refine @wpG_p _ _ _ _ _ (some 83) (.bool false) _ _ rfl (by rfl) (fun W => by go_simp) ?_
  simp only [n1, n3, n4]
  refine @wpG_p _ _ _ _ _ (some 84) (.bool false) _ _ rfl (by rfl) (fun _ => rfl) ?_
  simp only [n1, n3, n4]
  refine @wpG_p _ _ _ _ _ (some 85) (.int .i64 10) _ _ rfl (by rfl) (fun _ => rfl) ?_
  simp only [n1, n3, n4]
  refine @wpG_p _ _ _ _ _ (some 86) (.bool false) _ _ rfl (by rfl) (fun W => by go_simp) ?_
  simp only [n1, n3, n4]
  refine @wpG_p _ _ _ _ _ (some 87) (.bool false) _ _ rfl (by rfl) (fun W => by go_simp) ?_
  simp only [n1, n3, n4]
  refine @wpG_p _ _ _ _ _ (some 88) (.bool false) _ _ rfl (by rfl) (fun _ => rfl) ?_
  simp only [n1, n3, n4]
  refine @wpG_p _ _ _ _ _ (some 89) (.int .i64 0) _ _ rfl (by rfl) (fun _ => rfl) ?_
  simp only [n1, n3, n4]
  refine @wpG_p _ _ _ _ _ (some 90) (.bool false) _ _ rfl (by rfl) (fun W => by go_simp) ?_
  simp only [n1, n3, n4]
  refine @wpG_p _ _ _ _ _ (some 91) (.bool false) _ _ rfl (by rfl) (fun W => by go_simp) ?_
  simp only [n1, n3, n4]
  refine @wpG_p _ _ _ _ _ (some 92) (.bool false) _ _ rfl (by rfl) (fun _ => rfl) ?_
  simp only [n1, n3, n4]
  refine @wpG_p _ _ _ _ _ (some 93) (.int .i64 0) _ _ rfl (by rfl) (fun _ => rfl) ?_
  simp only [n1, n3, n4]
  refine @wpG_p _ _ _ _ _ (some 94) (.bool false) _ _ rfl (by rfl) (fun W => by go_simp) ?_
  simp only [n1, n3, n4]
  refine @wpG_p _ _ _ _ _ (some 95) (.bool false) _ _ rfl (by rfl) (fun W => by go_simp) ?_
  simp only [n1, n3, n4]
  refine @wpG_p _ _ _ _ _ (some 96) (.bool false) _ _ rfl (by rfl) (fun _ => rfl) ?_
  simp only [n1, n3, n4]
  refine @wpG_p _ _ _ _ _ (some 97) (.int .i64 3) _ _ rfl (by rfl) (fun _ => rfl) ?_
  simp only [n1, n3, n4]
  refine @wpG_p _ _ _ _ _ (some 98) (.bool false) _ _ rfl (by rfl) (fun W => by go_simp) ?_
  simp only [n1, n3, n4]
  refine @wpG_p _ _ _ _ _ (some 99) (.bool false) _ _ rfl (by rfl) (fun W => by go_simp) ?_
  simp only [n1, n3, n4]
  refine @wpG_p _ _ _ _ _ (some 100) (.bool false) _ _ rfl (by rfl) (fun _ => rfl) ?_
  simp only [n1, n3, n4]
  refine @wpG_p _ _ _ _ _ (some 101) (.int .i64 1) _ _ rfl (by rfl) (fun _ => rfl) ?_
  simp only [n1, n3, n4]
  refine @wpG_p _ _ _ _ _ (some 102) (.bool false) _ _ rfl (by rfl) (fun W => by go_simp) ?_
  simp only [n1, n3, n4]
  refine @wpG_p _ _ _ _ _ (some 103) (.bool false) _ _ rfl (by rfl) (fun W => by go_simp) ?_
  simp only [n1, n3, n4]
  refine wpG_done (fun V71 hv72 => ?_)
  have S73 : Hid (St w noB [own (.slice pA58 pn59 pc60) 35 8 pn59 (mcs []), own (.slice pA48 pn49 pc50) 35 8 pn49 (mcs []), own (.slice pA38 pn39 pc40) 35 8 pn39 (mcs [Ma.air, Ma.lamp]), blk g32 35 [.string (bstr [97, 105, 114]), .bool false, .bool false, .bool false, .int .i64 1, .int .i64 0, .int .i64 0, .int .i64 0, .string (bstr [108, 97, 109, 112]), .bool true, .bool false, .bool false, .int .i64 16, .int .i64 15, .int .i64 14, .int .i64 10], blk g24 35 [.string (bstr [97, 105, 114]), .bool false, .bool false, .bool false, .int .i64 1, .int .i64 0, .int .i64 0, .int .i64 0, .string (bstr [97, 105, 114]), .bool false, .bool false, .bool false, .int .i64 1, .int .i64 0, .int .i64 0, .int .i64 0], own (.slice (some ⟨dg5, 0, none⟩) 9 9) 35 8 9 (mcs Ma.dflt)] V71) := Lib.hid (S70.out.gr hv72)
  clear S70
  clear hv72
  refine ⟨rfl, hK _ _ ?_⟩
  clear hK
  go_upto_region 14 with fail
  refine wpG_region_k (fun K hK => ?_)
  refine @wpG_p _ _ _ _ _ (some 104) (.int .i64 5) _ _ rfl (by rfl) (fun _ => rfl) ?_
  simp only [n1, n3, n4]
  refine @wpG_p _ _ _ _ _ (some 105) (.bool true) _ _ rfl (by rfl) (fun W => by go_simp) ?_
  simp only [n1, n3, n4]
  refine @wpG_p _ _ _ _ _ (some 106) (.bool true) _ _ rfl (by rfl) (fun _ => rfl) ?_
  simp only [n1, n3, n4]
  refine @wpG_p _ _ _ _ _ (some 107) (.bool true) _ _ rfl (by rfl) (fun _ => rfl) ?_
  simp only [n1, n3, n4]
  refine @wpG_p _ _ _ _ _ (some 108) (.bool true) _ _ rfl (by rfl) (fun W => by go_simp) ?_
  simp only [n1, n3, n4]
  refine @wpG_p _ _ _ _ _ (some 109) (.bool true) _ _ rfl (by rfl) (fun _ => rfl) ?_
  simp only [n1, n3, n4]
  refine @wpG_p _ _ _ _ _ (some 110) (.slice (some ⟨dg5, 0, none⟩) 9 9) _ _ rfl (by rfl) (fun _ => rfl) ?_
  simp only [n1, n3, n4]
  refine @wpG_tk _ _ _ _ _ (some 111) (.int .i64 3) _ _ rfl (.call (f := 25) (args := #[.slice (some ⟨dg5, 0, none⟩) 9 9, .int .i64 5]) (by rfl) (fun W => by go_simp) (fun W hg => ((qfade_any _ _ _ Ma.dflt 5 W (Tbl.ofOwn ((S73.out.gr hg).ownr 5 rfl))).mono (fun e w' h => ⟨h.1.trans (by kernel_rfl), h.2⟩)))) ?_
  simp only [n1, n3, n4]
  refine @wpG_p _ _ _ _ _ (some 112) (.bool true) _ _ rfl (by rfl) (fun W => by go_simp) ?_
  simp only [n1, n3, n4]
  refine @wpG_p _ _ _ _ _ (some 113) (.bool true) _ _ rfl (by rfl) (fun W => by go_simp) ?_
  simp only [n1, n3, n4]
  refine @wpG_p _ _ _ _ _ (some 114) (.bool true) _ _ rfl (by rfl) (fun _ => rfl) ?_
  simp only [n1, n3, n4]
  refine @wpG_p _ _ _ _ _ (some 115) (.slice (some ⟨dg5, 0, none⟩) 9 9) _ _ rfl (by rfl) (fun _ => rfl) ?_
  simp only [n1, n3, n4]
  refine @wpG_tk _ _ _ _ _ (some 116) (.int .i64 16) _ _ rfl (.call (f := 25) (args := #[.slice (some ⟨dg5, 0, none⟩) 9 9, .int .i64 99]) (by rfl) (fun W => by go_simp) (fun W hg => ((qfade_any _ _ _ Ma.dflt 99 W (Tbl.ofOwn ((S73.out.gr hg).ownr 5 rfl))).mono (fun e w' h => ⟨h.1.trans (by kernel_rfl), h.2⟩)))) ?_
  simp only [n1, n3, n4]
  refine @wpG_p _ _ _ _ _ (some 117) (.bool true) _ _ rfl (by rfl) (fun W => by go_simp) ?_
  simp only [n1, n3, n4]
  refine @wpG_p _ _ _ _ _ (some 118) (.bool true) _ _ rfl (by rfl) (fun W => by go_simp) ?_
  simp only [n1, n3, n4]
  refine @wpG_p _ _ _ _ _ (some 119) (.bool true) _ _ rfl (by rfl) (fun _ => rfl) ?_
  simp only [n1, n3, n4]
  refine @wpG_p _ _ _ _ _ (some 120) (.slice (some ⟨dg5, 0, none⟩) 9 9) _ _ rfl (by rfl) (fun _ => rfl) ?_
  simp only [n1, n3, n4]
  refine @wpG_tk _ _ _ _ _ (some 121) (.bool true) _ _ rfl (.call (f := 22) (args := #[.slice (some ⟨dg5, 0, none⟩) 9 9, .int .i64 1]) (by rfl) (fun W => by go_simp) (fun W hg => ((qsolid_any _ _ _ Ma.dflt 1 W (Tbl.ofOwn ((S73.out.gr hg).ownr 5 rfl))).mono (fun e w' h => ⟨h.1.trans (by kernel_rfl), h.2⟩)))) ?_
  simp only [n1, n3, n4]
  refine @wpG_p _ _ _ _ _ (some 122) (.bool true) _ _ rfl (by rfl) (fun W => by go_simp) ?_
  simp only [n1, n3, n4]
  refine @wpG_p _ _ _ _ _ (some 123) (.bool true) _ _ rfl (by rfl) (fun _ => rfl) ?_
  simp only [n1, n3, n4]
  refine @wpG_p _ _ _ _ _ (some 124) (.slice (some ⟨dg5, 0, none⟩) 9 9) _ _ rfl (by rfl) (fun _ => rfl) ?_
  simp only [n1, n3, n4]
  refine @wpG_tk _ _ _ _ _ (some 125) (.bool false) _ _ rfl (.call (f := 22) (args := #[.slice (some ⟨dg5, 0, none⟩) 9 9, .int .i64 5]) (by rfl) (fun W => by go_simp) (fun W hg => ((qsolid_any _ _ _ Ma.dflt 5 W (Tbl.ofOwn ((S73.out.gr hg).ownr 5 rfl))).mono (fun e w' h => ⟨h.1.trans (by kernel_rfl), h.2⟩)))) ?_
  simp only [n1, n3, n4]
  refine @wpG_p _ _ _ _ _ (some 126) (.bool true) _ _ rfl (by rfl) (fun W => by first | (go_simp; done) | (cases false <;> rfl)) ?_
  simp only [n1, n3, n4]
  refine @wpG_p _ _ _ _ _ (some 127) (.bool true) _ _ rfl (by rfl) (fun W => by go_simp) ?_
  simp only [n1, n3, n4]
  refine @wpG_p _ _ _ _ _ (some 128) (.bool true) _ _ rfl (by rfl) (fun _ => rfl) ?_
  simp only [n1, n3, n4]
  refine @wpG_p _ _ _ _ _ (some 129) (.slice (some ⟨dg5, 0, none⟩) 9 9) _ _ rfl (by rfl) (fun _ => rfl) ?_
  simp only [n1, n3, n4]
  refine @wpG_tk _ _ _ _ _ (some 130) (.bool true) _ _ rfl (.call (f := 23) (args := #[.slice (some ⟨dg5, 0, none⟩) 9 9, .int .i64 5]) (by rfl) (fun W => by go_simp) (fun W hg => ((qliquid_any _ _ _ Ma.dflt 5 W (Tbl.ofOwn ((S73.out.gr hg).ownr 5 rfl))).mono (fun e w' h => ⟨h.1.trans (by kernel_rfl), h.2⟩)))) ?_
  simp only [n1, n3, n4]
  refine @wpG_p _ _ _ _ _ (some 131) (.bool true) _ _ rfl (by rfl) (fun W => by go_simp) ?_
  simp only [n1, n3, n4]
  refine @wpG_p _ _ _ _ _ (some 132) (.bool true) _ _ rfl (by rfl) (fun _ => rfl) ?_
  simp only [n1, n3, n4]
  refine @wpG_p _ _ _ _ _ (some 133) (.slice (some ⟨dg5, 0, none⟩) 9 9) _ _ rfl (by rfl) (fun _ => rfl) ?_
  simp only [n1, n3, n4]
  refine @wpG_tk _ _ _ _ _ (some 134) (.bool true) _ _ rfl (.call (f := 24) (args := #[.slice (some ⟨dg5, 0, none⟩) 9 9, .int .i64 4]) (by rfl) (fun W => by go_simp) (fun W hg => ((qfalling_any _ _ _ Ma.dflt 4 W (Tbl.ofOwn ((S73.out.gr hg).ownr 5 rfl))).mono (fun e w' h => ⟨h.1.trans (by kernel_rfl), h.2⟩)))) ?_
  simp only [n1, n3, n4]
  refine @wpG_p _ _ _ _ _ (some 135) (.bool true) _ _ rfl (by rfl) (fun W => by go_simp) ?_
  simp only [n1, n3, n4]
  refine @wpG_p _ _ _ _ _ (some 136) (.bool true) _ _ rfl (by rfl) (fun _ => rfl) ?_
  simp only [n1, n3, n4]
  refine @wpG_p _ _ _ _ _ (some 137) (.slice (some ⟨dg5, 0, none⟩) 9 9) _ _ rfl (by rfl) (fun _ => rfl) ?_
  simp only [n1, n3, n4]
  refine @wpG_tk _ _ _ _ _ (some 138) (.agg #[.int .i64 15, .int .i64 14, .int .i64 10]) _ _ rfl (.call (f := 26) (args := #[.slice (some ⟨dg5, 0, none⟩) 9 9, .int .i64 3]) (by rfl) (fun W => by go_simp) (fun W hg => ((qemit_any _ _ _ Ma.dflt 3 W (Tbl.ofOwn ((S73.out.gr hg).ownr 5 rfl))).mono (fun e w' h => ⟨h.1.trans (by kernel_rfl), h.2⟩)))) ?_
  simp only [n1, n3, n4]
  refine @wpG_p _ _ _ _ _ (some 139) (.agg #[.int .i64 15, .int .i64 14, .int .i64 10]) _ _ rfl (by rfl) (fun W => by go_simp) ?_
  simp only [n1, n3, n4]
  refine @wpG_p _ _ _ _ _ (some 140) (.bool true) _ _ rfl (by rfl) (fun W => op_i3_eql W 15 14 10 15 14 10 rfl rfl rfl) ?_
  simp only [n1, n3, n4]
  refine @wpG_p _ _ _ _ _ (some 141) (.bool true) _ _ rfl (by rfl) (fun W => by go_simp) ?_
  simp only [n1, n3, n4]
  refine @wpG_p _ _ _ _ _ (some 21) (.bool true) _ _ rfl (by rfl) (fun _ => rfl) ?_
  simp only [n1, n3, n4]
  refine wpG_done (fun V74 hv75 => ?_)
  have S76 : Hid (St w noB [own (.slice pA58 pn59 pc60) 35 8 pn59 (mcs []), own (.slice pA48 pn49 pc50) 35 8 pn49 (mcs []), own (.slice pA38 pn39 pc40) 35 8 pn39 (mcs [Ma.air, Ma.lamp]), blk g32 35 [.string (bstr [97, 105, 114]), .bool false, .bool false, .bool false, .int .i64 1, .int .i64 0, .int .i64 0, .int .i64 0, .string (bstr [108, 97, 109, 112]), .bool true, .bool false, .bool false, .int .i64 16, .int .i64 15, .int .i64 14, .int .i64 10], blk g24 35 [.string (bstr [97, 105, 114]), .bool false, .bool false, .bool false, .int .i64 1, .int .i64 0, .int .i64 0, .int .i64 0, .string (bstr [97, 105, 114]), .bool false, .bool false, .bool false, .int .i64 1, .int .i64 0, .int .i64 0, .int .i64 0], own (.slice (some ⟨dg5, 0, none⟩) 9 9) 35 8 9 (mcs Ma.dflt)] V74) := Lib.hid (S73.out.gr hv75)
  clear S73
  clear hv75
  refine ⟨rfl, hK _ _ ?_⟩
  clear hK
  go_upto_region 15 with fail
  refine wpK_region_k (by kernel_rfl) (fun K hK => ?_)
  refine wpK_ta (i := 0) (some 142) (v := .bool true) rfl rfl (by kernel_rfl) (fun _ _ _ h => onN_panic h) (Or.inl ⟨rfl, fun _ => rfl⟩) ?_
  simp only [n1, n3, n4]
  refine wpK_ta (i := 1) (some 143) (v := .bool true) rfl rfl (by kernel_rfl) (fun _ _ _ h => onN_panic h) (Or.inl ⟨rfl, fun _ => rfl⟩) ?_
  simp only [n1, n3, n4]
  refine wpK_ta (i := 2) (some 144) (v := .int .i64 0) rfl rfl (by kernel_rfl) (fun _ _ _ h => onN_panic h) (Or.inl ⟨rfl, fun _ => rfl⟩) ?_
  simp only [n1, n3, n4]
  refine wpK_ta (i := 3) (some 145) (v := .bool true) rfl rfl (by kernel_rfl) (fun _ _ _ h => onN_panic h) (Or.inl ⟨by rfl, fun W => by go_simp⟩) ?_
  simp only [n1, n3, n4]
  refine wpK_ta (i := 4) (some 146) (v := .bool true) rfl rfl (by kernel_rfl) (fun _ _ _ h => onN_panic h) (Or.inl ⟨by rfl, fun W => by go_simp⟩) ?_
  simp only [n1, n3, n4]
  refine wpK_ta (i := 5) (some 147) (v := .bool true) rfl rfl (by kernel_rfl) (fun _ _ _ h => onN_panic h) (Or.inl ⟨rfl, fun _ => rfl⟩) ?_
  simp only [n1, n3, n4]
  refine wpK_ta (i := 6) (some 148) (v := .int .i64 1) rfl rfl (by kernel_rfl) (fun _ _ _ h => onN_panic h) (Or.inl ⟨rfl, fun _ => rfl⟩) ?_
  simp only [n1, n3, n4]
  refine wpK_ta (i := 7) (some 149) (v := .bool true) rfl rfl (by kernel_rfl) (fun _ _ _ h => onN_panic h) (Or.inl ⟨by rfl, fun W => by go_simp⟩) ?_
  simp only [n1, n3, n4]
  refine wpK_ta (i := 8) (some 150) (v := .bool true) rfl rfl (by kernel_rfl) (fun _ _ _ h => onN_panic h) (Or.inl ⟨by rfl, fun W => by go_simp⟩) ?_
  simp only [n1, n3, n4]
  refine wpK_ta (i := 9) (some 151) (v := .bool true) rfl rfl (by kernel_rfl) (fun _ _ _ h => onN_panic h) (Or.inl ⟨rfl, fun _ => rfl⟩) ?_
  simp only [n1, n3, n4]
  refine wpK_ta (i := 10) (some 152) (v := .int .i64 0) rfl rfl (by kernel_rfl) (fun _ _ _ h => onN_panic h) (Or.inl ⟨rfl, fun _ => rfl⟩) ?_
  simp only [n1, n3, n4]
  refine wpK_ta (i := 11) (some 153) (v := .bool true) rfl rfl (by kernel_rfl) (fun _ _ _ h => onN_panic h) (Or.inl ⟨by rfl, fun W => by go_simp⟩) ?_
  simp only [n1, n3, n4]
  refine wpK_ta (i := 12) (some 154) (v := .bool true) rfl rfl (by kernel_rfl) (fun _ _ _ h => onN_panic h) (Or.inl ⟨by rfl, fun W => by go_simp⟩) ?_
  simp only [n1, n3, n4]
  refine wpK_ta (i := 13) (some 155) (v := .bool true) rfl rfl (by kernel_rfl) (fun _ _ _ h => onN_panic h) (Or.inl ⟨rfl, fun _ => rfl⟩) ?_
  simp only [n1, n3, n4]
  refine wpK_ta (i := 14) (some 156) (v := .int .i64 1) rfl rfl (by kernel_rfl) (fun _ _ _ h => onN_panic h) (Or.inl ⟨rfl, fun _ => rfl⟩) ?_
  simp only [n1, n3, n4]
  refine wpK_ta (i := 15) (some 157) (v := .bool true) rfl rfl (by kernel_rfl) (fun _ _ _ h => onN_panic h) (Or.inl ⟨by rfl, fun W => by go_simp⟩) ?_
  simp only [n1, n3, n4]
  refine wpK_ta (i := 16) (some 158) (v := .bool true) rfl rfl (by kernel_rfl) (fun _ _ _ h => onN_panic h) (Or.inl ⟨by rfl, fun W => by go_simp⟩) ?_
  simp only [n1, n3, n4]
  refine wpK_ta (i := 17) (some 159) (v := .bool true) rfl rfl (by kernel_rfl) (fun _ _ _ h => onN_panic h) (Or.inl ⟨rfl, fun _ => rfl⟩) ?_
  simp only [n1, n3, n4]
  refine wpK_ta (i := 18) (some 160) (v := .int .i64 1) rfl rfl (by kernel_rfl) (fun _ _ _ h => onN_panic h) (Or.inl ⟨rfl, fun _ => rfl⟩) ?_
  simp only [n1, n3, n4]
  refine wpK_ta (i := 19) (some 161) (v := .bool true) rfl rfl (by kernel_rfl) (fun _ _ _ h => onN_panic h) (Or.inl ⟨by rfl, fun W => by go_simp⟩) ?_
  simp only [n1, n3, n4]
  refine wpK_ta (i := 20) (some 162) (v := .bool true) rfl rfl (by kernel_rfl) (fun _ _ _ h => onN_panic h) (Or.inl ⟨by rfl, fun W => by go_simp⟩) ?_
  simp only [n1, n3, n4]
  refine wpK_ta (i := 21) (some 163) (v := .bool true) rfl rfl (by kernel_rfl) (fun _ _ _ h => onN_panic h) (Or.inl ⟨rfl, fun _ => rfl⟩) ?_
  simp only [n1, n3, n4]
  refine wpK_ta (i := 22) (some 164) (v := .string (bstr [97, 105, 114, 32, 103, 97, 115, 32, 102, 97, 100, 101, 32, 49, 10, 108, 97, 109, 112, 32, 115, 111, 108, 105, 100, 32, 102, 97, 100, 101, 32, 49, 54, 32, 101, 109, 105, 116, 32, 49, 53, 32, 49, 52, 32, 49, 48, 10])) rfl rfl (by kernel_rfl) (fun _ _ _ h => onN_panic h) (Or.inl ⟨rfl, fun _ => rfl⟩) ?_
  simp only [n1, n3, n4]
  refine wpK_ta (i := 23) (some 165) (v := .bool true) rfl rfl (by kernel_rfl) (fun _ _ _ h => onN_panic h) (Or.inl ⟨by rfl, fun W => by first | kernel_rfl | (go_simp; done)⟩) ?_
  simp only [n1, n3, n4]
  refine wpK_ta (i := 24) (some 166) (v := .bool true) rfl rfl (by kernel_rfl) (fun _ _ _ h => onN_panic h) (Or.inl ⟨by rfl, fun W => by go_simp⟩) ?_
  simp only [n1, n3, n4]
  refine wpK_ta (i := 25) (some 167) (v := .bool true) rfl rfl (by kernel_rfl) (fun _ _ _ h => onN_panic h) (Or.inl ⟨rfl, fun _ => rfl⟩) ?_
  simp only [n1, n3, n4]
  refine wpK_ta (i := 26) (some 168) (v := .slice pA38 pn39 pc40) rfl rfl (by kernel_rfl) (fun _ _ _ h => onN_panic h) (Or.inl ⟨rfl, fun _ => rfl⟩) ?_
  simp only [n1, n3, n4]
  refine wpK_ta (i := 27) (some 169) (v := .slice (some ⟨dg5, 0, none⟩) 9 9) rfl rfl (by kernel_rfl) (fun _ _ _ h => onN_panic h) (Or.inl ⟨rfl, fun _ => rfl⟩) ?_
  simp only [n1, n3, n4]
  refine wpK_ta (i := 28) (some 170) (v := .pointer (some ⟨dg5, 0, none⟩)) rfl rfl (by kernel_rfl) (fun _ _ _ h => onN_panic h) (Or.inl ⟨by rfl, fun W => by (go_simp <;> first | rfl | omega | (simp; omega))⟩) ?_
  simp only [n1, n3, n4]
  refine wpK_ta (i := 30) (some 172) (v := .slice (some ⟨dg5, 0, none⟩) 9 9) rfl rfl (by kernel_rfl) (fun _ _ _ h => onN_panic h) (Or.inl ⟨rfl, fun _ => rfl⟩) ?_
  simp only [n1, n3, n4]
  refine wpK_ta (i := 31) (some 173) (v := .pointer (some ⟨dg5, 24, none⟩)) rfl rfl (by kernel_rfl) (fun _ _ _ h => onN_panic h) (Or.inl ⟨by rfl, fun W => by (go_simp <;> first | rfl | omega | (simp; omega))⟩) ?_
  simp only [n1, n3, n4]
  refine wpK_tk (i := 29) (some 171) (v := .agg #[.string (bstr [97, 105, 114]), .bool false, .bool false, .bool false, .int .i64 1, .int .i64 0, .int .i64 0, .int .i64 0]) rfl rfl (by kernel_rfl) (fun _ _ _ h => onN_panic h) (.load_mid (by rfl) 35 (.tmp 170) rfl dg5 0 rfl [.string (bstr [97, 105, 114]), .bool false, .bool false, .bool false, .int .i64 1, .int .i64 0, .int .i64 0, .int .i64 0] _ (fun W hg => (read_mc ((S76.out.gr (Gr.un hg)).liesOwn 5 rfl) 0 rfl)) Tryd.underlying35 rfl (by kernel_rfl)) ?_
  simp only [n1, n3, n4]
  refine wpK_tk (i := 32) (some 174) (v := .agg #[.string (bstr [108, 97, 109, 112]), .bool true, .bool false, .bool false, .int .i64 16, .int .i64 15, .int .i64 14, .int .i64 10]) rfl rfl (by kernel_rfl) (fun _ _ _ h => onN_panic h) (.load_mid (by rfl) 35 (.tmp 173) rfl dg5 24 rfl [.string (bstr [108, 97, 109, 112]), .bool true, .bool false, .bool false, .int .i64 16, .int .i64 15, .int .i64 14, .int .i64 10] _ (fun W hg => (read_mc ((S76.out.gr (Gr.un hg)).liesOwn 5 rfl) 3 rfl)) Tryd.underlying35 rfl (by kernel_rfl)) ?_
  simp only [n1, n3, n4]
  refine wpK_val (i := 33) (some 175) rfl rfl (by kernel_rfl) (by rfl) (fun W77 hg78 => ⟨.slice (some ⟨W77.heap.size, 0, none⟩) 2 2, W77.alloc (.cells #[.string (bstr [97, 105, 114]), .bool false, .bool false, .bool false, .int .i64 1, .int .i64 0, .int .i64 0, .int .i64 0, .string (bstr [108, 97, 109, 112]), .bool true, .bool false, .bool false, .int .i64 16, .int .i64 15, .int .i64 14, .int .i64 10] 35), by (go_simp <;> rfl), Gr.al _ _, ?_⟩)
  simp only [n1, n3, n4]
  obtain ⟨g79, U80, hg_, hu_, hS_⟩ := (S76.out.gr (Gr.un hg78)).made [.string (bstr [97, 105, 114]), .bool false, .bool false, .bool false, .int .i64 1, .int .i64 0, .int .i64 0, .int .i64 0, .string (bstr [108, 97, 109, 112]), .bool true, .bool false, .bool false, .int .i64 16, .int .i64 15, .int .i64 14, .int .i64 10] 35
  rw [← hu_, ← hg_]
  have S81 : Hid (St w noB [blk g79 35 [.string (bstr [97, 105, 114]), .bool false, .bool false, .bool false, .int .i64 1, .int .i64 0, .int .i64 0, .int .i64 0, .string (bstr [108, 97, 109, 112]), .bool true, .bool false, .bool false, .int .i64 16, .int .i64 15, .int .i64 14, .int .i64 10], own (.slice pA58 pn59 pc60) 35 8 pn59 (mcs []), own (.slice pA48 pn49 pc50) 35 8 pn49 (mcs []), own (.slice pA38 pn39 pc40) 35 8 pn39 (mcs [Ma.air, Ma.lamp]), blk g32 35 [.string (bstr [97, 105, 114]), .bool false, .bool false, .bool false, .int .i64 1, .int .i64 0, .int .i64 0, .int .i64 0, .string (bstr [108, 97, 109, 112]), .bool true, .bool false, .bool false, .int .i64 16, .int .i64 15, .int .i64 14, .int .i64 10], blk g24 35 [.string (bstr [97, 105, 114]), .bool false, .bool false, .bool false, .int .i64 1, .int .i64 0, .int .i64 0, .int .i64 0, .string (bstr [97, 105, 114]), .bool false, .bool false, .bool false, .int .i64 1, .int .i64 0, .int .i64 0, .int .i64 0], own (.slice (some ⟨dg5, 0, none⟩) 9 9) 35 8 9 (mcs Ma.dflt)] U80) := Lib.hid hS_
  clear S76
  clear hg_ hu_ hS_ hg78
  refine wpK_tk (i := 34) (some 176) (v := .bool true) rfl rfl (by kernel_rfl) (fun _ _ _ h => onN_panic h) (.call (f := 15) (args := #[.slice pA38 pn39 pc40, .slice (some ⟨g79, 0, none⟩) 2 2]) (by rfl) (fun W => by go_simp) (fun W hg => ((same_any _ _ _ [Ma.air, Ma.lamp] _ _ _ [Ma.air, Ma.lamp] W (Tbl.ofOwn ((S81.out.gr hg).ownr 3 rfl)) (Tbl.ofBlk (S81.out.gr hg) 0 rfl [Ma.air, Ma.lamp] 2 rfl rfl (by decide))).mono (fun e w' h => ⟨h.1.trans (by kernel_rfl), h.2⟩)))) ?_
  simp only [n1, n3, n4]
  refine wpK_ta (i := 35) (some 177) (v := .bool true) rfl rfl (by kernel_rfl) (fun _ _ _ h => onN_panic h) (Or.inl ⟨by rfl, fun W => by go_simp⟩) ?_
  simp only [n1, n3, n4]
  refine wpK_ta (i := 36) (some 178) (v := .bool true) rfl rfl (by kernel_rfl) (fun _ _ _ h => onN_panic h) (Or.inl ⟨rfl, fun _ => rfl⟩) ?_
  simp only [n1, n3, n4]
  refine wpK_ta (i := 37) (some 179) (v := .slice pA38 pn39 pc40) rfl rfl (by kernel_rfl) (fun _ _ _ h => onN_panic h) (Or.inl ⟨rfl, fun _ => rfl⟩) ?_
  simp only [n1, n3, n4]
  refine wpK_ta (i := 38) (some 180) (v := .slice (some ⟨dg5, 0, none⟩) 9 9) rfl rfl (by kernel_rfl) (fun _ _ _ h => onN_panic h) (Or.inl ⟨rfl, fun _ => rfl⟩) ?_
  simp only [n1, n3, n4]
  refine wpK_tk (i := 39) (some 181) (v := .bool false) rfl rfl (by kernel_rfl) (fun _ _ _ h => onN_panic h) (.call (f := 15) (args := #[.slice pA38 pn39 pc40, .slice (some ⟨dg5, 0, none⟩) 9 9]) (by rfl) (fun W => by go_simp) (fun W hg => ((same_any _ _ _ [Ma.air, Ma.lamp] _ _ _ Ma.dflt W (Tbl.ofOwn ((S81.out.gr hg).ownr 3 rfl)) (Tbl.ofOwn ((S81.out.gr hg).ownr 6 rfl))).mono (fun e w' h => ⟨h.1.trans (by kernel_rfl), h.2⟩)))) ?_
  simp only [n1, n3, n4]
  refine wpK_ta (i := 40) (some 182) (v := .bool true) rfl rfl (by kernel_rfl) (fun _ _ _ h => onN_panic h) (Or.inl ⟨by rfl, fun W => by first | (go_simp; done) | (cases false <;> rfl)⟩) ?_
  simp only [n1, n3, n4]
  refine wpK_ta (i := 41) (some 183) (v := .bool true) rfl rfl (by kernel_rfl) (fun _ _ _ h => onN_panic h) (Or.inl ⟨by rfl, fun W => by go_simp⟩) ?_
  simp only [n1, n3, n4]
  refine wpK_ta (i := 42) (some 0) (v := .bool true) rfl rfl (by kernel_rfl) (fun _ _ _ h => onN_panic h) (Or.inl ⟨rfl, fun _ => rfl⟩) ?_
  simp only [n1, n3]
  refine wpK_done (by kernel_rfl) (fun V82 hv83 => ?_) _
  have S84 : Hid (St w noB [blk g79 35 [.string (bstr [97, 105, 114]), .bool false, .bool false, .bool false, .int .i64 1, .int .i64 0, .int .i64 0, .int .i64 0, .string (bstr [108, 97, 109, 112]), .bool true, .bool false, .bool false, .int .i64 16, .int .i64 15, .int .i64 14, .int .i64 10], own (.slice pA58 pn59 pc60) 35 8 pn59 (mcs []), own (.slice pA48 pn49 pc50) 35 8 pn49 (mcs []), own (.slice pA38 pn39 pc40) 35 8 pn39 (mcs [Ma.air, Ma.lamp]), blk g32 35 [.string (bstr [97, 105, 114]), .bool false, .bool false, .bool false, .int .i64 1, .int .i64 0, .int .i64 0, .int .i64 0, .string (bstr [108, 97, 109, 112]), .bool true, .bool false, .bool false, .int .i64 16, .int .i64 15, .int .i64 14, .int .i64 10], blk g24 35 [.string (bstr [97, 105, 114]), .bool false, .bool false, .bool false, .int .i64 1, .int .i64 0, .int .i64 0, .int .i64 0, .string (bstr [97, 105, 114]), .bool false, .bool false, .bool false, .int .i64 1, .int .i64 0, .int .i64 0, .int .i64 0], own (.slice (some ⟨dg5, 0, none⟩) 9 9) 35 8 9 (mcs Ma.dflt)] V82) := Lib.hid (S81.out.gr hv83)
  clear S81
  clear hv83
  refine ⟨rfl, hK _ _ ?_⟩
  clear hK
  go_wp2_with fail
  go_ret
  refine ⟨?_, S84.out.bel⟩
  show Ending.returned (.bool true) = _
  (first | rfl | (rfl))

end Go.Proofs.YtpjjddjoegnipaaDoor
