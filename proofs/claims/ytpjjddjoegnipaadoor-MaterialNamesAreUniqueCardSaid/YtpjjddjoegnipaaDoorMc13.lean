/-
  Contracts: the default table; a material printed.
-/
import Derived.Test.YtpjjddjoegnipaaDoorMc3
import Derived.Test.YtpjjddjoegnipaaDoorMaf
import Derived.Test.YtpjjddjoegnipaaDoorMa5
import Derived.Handy
namespace Go.Proofs.YtpjjddjoegnipaaDoor
open Go Go.RowKit
set_option linter.unusedVariables false
set_option linter.unusedSimpArgs false
set_option maxRecDepth 1000000 in
set_option maxHeartbeats 4000000 in
theorem default_any (w : World) :
    Calls Tryd.prog 20 #[] w fun e w' => ∃ g, e = .returned (.slice (some ⟨g, 0, none⟩) 9 9) ∧ St w noB [own (.slice (some ⟨g, 0, none⟩) 9 9) 35 8 9 (mcs Ma.dflt)] w' := by
  have S1 : Hid (St w noB [] w) := Lib.hid (St.start w)
  go_enter Tryd.func20, Tryd.ntmps20
  go_upto_region 0 with fail
  refine wpG_region_k (fun K hK => ?_)
  refine @wpG_p _ _ _ _ _ (some 0) (.slice none 0 0) _ _ rfl (by rfl) (fun _ => rfl) ?_
  simp only [n1, n3]
  refine wpG_done (fun V2 hv3 => ?_)
  have S4 : Hid (St w noB [] V2) := Lib.hid (S1.out.gr hv3)
  clear S1
  clear hv3
  refine ⟨rfl, hK _ _ ?_⟩
  clear hK
  go_upto_region 1 with fail
  refine wpG_region_k (fun K hK => ?_)
  refine @wpG_tk _ _ _ _ _ (some 1) (.agg #[.string (bstr [97, 105, 114]), .bool false, .bool false, .bool false, .int .i64 1, .int .i64 0, .int .i64 0, .int .i64 0]) _ _ rfl (.call (f := 29) (args := #[]) (by rfl) (fun W => by go_simp) (fun W hg => air_any W)) ?_
  simp only [n1, n3, n4]
  refine @wpG_p _ _ _ _ _ (some 2) (.agg #[.string ⟨#[115, 116, 111, 110, 101]⟩, .bool true, .bool false, .bool false, .int .i64 16, .int .i64 0, .int .i64 0, .int .i64 0]) _ _ rfl (by rfl) (fun W => by go_simp) ?_
  simp only [n1, n3, n4]
  refine @wpG_p _ _ _ _ _ (some 3) (.agg #[.string ⟨#[103, 108, 97, 115, 115]⟩, .bool true, .bool false, .bool false, .int .i64 1, .int .i64 0, .int .i64 0, .int .i64 0]) _ _ rfl (by rfl) (fun W => by go_simp) ?_
  simp only [n1, n3, n4]
  refine @wpG_p _ _ _ _ _ (some 4) (.agg #[.int .i64 15, .int .i64 14, .int .i64 10]) _ _ rfl (by rfl) (fun W => by go_simp) ?_
  simp only [n1, n3, n4]
  refine @wpG_p _ _ _ _ _ (some 5) (.agg #[.string ⟨#[108, 97, 109, 112]⟩, .bool true, .bool false, .bool false, .int .i64 16, .int .i64 15, .int .i64 14, .int .i64 10]) _ _ rfl (by rfl) (fun W => by go_simp) ?_
  simp only [n1, n3, n4]
  refine @wpG_p _ _ _ _ _ (some 6) (.agg #[.string ⟨#[115, 97, 110, 100]⟩, .bool true, .bool false, .bool true, .int .i64 16, .int .i64 0, .int .i64 0, .int .i64 0]) _ _ rfl (by rfl) (fun W => by go_simp) ?_
  simp only [n1, n3, n4]
  refine @wpG_p _ _ _ _ _ (some 7) (.agg #[.string ⟨#[119, 97, 116, 101, 114]⟩, .bool false, .bool true, .bool false, .int .i64 3, .int .i64 0, .int .i64 0, .int .i64 0]) _ _ rfl (by rfl) (fun W => by go_simp) ?_
  simp only [n1, n3, n4]
  refine @wpG_p _ _ _ _ _ (some 8) (.agg #[.string ⟨#[108, 101, 97, 118, 101, 115]⟩, .bool true, .bool false, .bool false, .int .i64 2, .int .i64 0, .int .i64 0, .int .i64 0]) _ _ rfl (by rfl) (fun W => by go_simp) ?_
  simp only [n1, n3, n4]
  refine @wpG_p _ _ _ _ _ (some 9) (.agg #[.int .i64 9, .int .i64 3, .int .i64 0]) _ _ rfl (by rfl) (fun W => by go_simp) ?_
  simp only [n1, n3, n4]
  refine @wpG_p _ _ _ _ _ (some 10) (.agg #[.string ⟨#[101, 109, 98, 101, 114]⟩, .bool true, .bool false, .bool false, .int .i64 16, .int .i64 9, .int .i64 3, .int .i64 0]) _ _ rfl (by rfl) (fun W => by go_simp) ?_
  simp only [n1, n3, n4]
  refine @wpG_p _ _ _ _ _ (some 11) (.agg #[.string ⟨#[102, 111, 103]⟩, .bool false, .bool false, .bool false, .int .i64 2, .int .i64 0, .int .i64 0, .int .i64 0]) _ _ rfl (by rfl) (fun W => by go_simp) ?_
  simp only [n1, n3, n4]
  refine wpG_val (some 12) rfl (by rfl) (fun W5 hg6 => ⟨.slice (some ⟨W5.heap.size, 0, none⟩) 9 9, W5.alloc (.cells #[.string (bstr [97, 105, 114]), .bool false, .bool false, .bool false, .int .i64 1, .int .i64 0, .int .i64 0, .int .i64 0, .string ⟨#[115, 116, 111, 110, 101]⟩, .bool true, .bool false, .bool false, .int .i64 16, .int .i64 0, .int .i64 0, .int .i64 0, .string ⟨#[103, 108, 97, 115, 115]⟩, .bool true, .bool false, .bool false, .int .i64 1, .int .i64 0, .int .i64 0, .int .i64 0, .string ⟨#[108, 97, 109, 112]⟩, .bool true, .bool false, .bool false, .int .i64 16, .int .i64 15, .int .i64 14, .int .i64 10, .string ⟨#[115, 97, 110, 100]⟩, .bool true, .bool false, .bool true, .int .i64 16, .int .i64 0, .int .i64 0, .int .i64 0, .string ⟨#[119, 97, 116, 101, 114]⟩, .bool false, .bool true, .bool false, .int .i64 3, .int .i64 0, .int .i64 0, .int .i64 0, .string ⟨#[108, 101, 97, 118, 101, 115]⟩, .bool true, .bool false, .bool false, .int .i64 2, .int .i64 0, .int .i64 0, .int .i64 0, .string ⟨#[101, 109, 98, 101, 114]⟩, .bool true, .bool false, .bool false, .int .i64 16, .int .i64 9, .int .i64 3, .int .i64 0, .string ⟨#[102, 111, 103]⟩, .bool false, .bool false, .bool false, .int .i64 2, .int .i64 0, .int .i64 0, .int .i64 0] 35), by (go_simp <;> rfl), ?_⟩)
  simp only [n1, n3, n4]
  obtain ⟨g7, U8, hg_, hu_, hS_⟩ := (S4.out.gr hg6).made [.string (bstr [97, 105, 114]), .bool false, .bool false, .bool false, .int .i64 1, .int .i64 0, .int .i64 0, .int .i64 0, .string ⟨#[115, 116, 111, 110, 101]⟩, .bool true, .bool false, .bool false, .int .i64 16, .int .i64 0, .int .i64 0, .int .i64 0, .string ⟨#[103, 108, 97, 115, 115]⟩, .bool true, .bool false, .bool false, .int .i64 1, .int .i64 0, .int .i64 0, .int .i64 0, .string ⟨#[108, 97, 109, 112]⟩, .bool true, .bool false, .bool false, .int .i64 16, .int .i64 15, .int .i64 14, .int .i64 10, .string ⟨#[115, 97, 110, 100]⟩, .bool true, .bool false, .bool true, .int .i64 16, .int .i64 0, .int .i64 0, .int .i64 0, .string ⟨#[119, 97, 116, 101, 114]⟩, .bool false, .bool true, .bool false, .int .i64 3, .int .i64 0, .int .i64 0, .int .i64 0, .string ⟨#[108, 101, 97, 118, 101, 115]⟩, .bool true, .bool false, .bool false, .int .i64 2, .int .i64 0, .int .i64 0, .int .i64 0, .string ⟨#[101, 109, 98, 101, 114]⟩, .bool true, .bool false, .bool false, .int .i64 16, .int .i64 9, .int .i64 3, .int .i64 0, .string ⟨#[102, 111, 103]⟩, .bool false, .bool false, .bool false, .int .i64 2, .int .i64 0, .int .i64 0, .int .i64 0] 35
  rw [← hu_, ← hg_]
  have S9 : Hid (St w noB [blk g7 35 [.string (bstr [97, 105, 114]), .bool false, .bool false, .bool false, .int .i64 1, .int .i64 0, .int .i64 0, .int .i64 0, .string ⟨#[115, 116, 111, 110, 101]⟩, .bool true, .bool false, .bool false, .int .i64 16, .int .i64 0, .int .i64 0, .int .i64 0, .string ⟨#[103, 108, 97, 115, 115]⟩, .bool true, .bool false, .bool false, .int .i64 1, .int .i64 0, .int .i64 0, .int .i64 0, .string ⟨#[108, 97, 109, 112]⟩, .bool true, .bool false, .bool false, .int .i64 16, .int .i64 15, .int .i64 14, .int .i64 10, .string ⟨#[115, 97, 110, 100]⟩, .bool true, .bool false, .bool true, .int .i64 16, .int .i64 0, .int .i64 0, .int .i64 0, .string ⟨#[119, 97, 116, 101, 114]⟩, .bool false, .bool true, .bool false, .int .i64 3, .int .i64 0, .int .i64 0, .int .i64 0, .string ⟨#[108, 101, 97, 118, 101, 115]⟩, .bool true, .bool false, .bool false, .int .i64 2, .int .i64 0, .int .i64 0, .int .i64 0, .string ⟨#[101, 109, 98, 101, 114]⟩, .bool true, .bool false, .bool false, .int .i64 16, .int .i64 9, .int .i64 3, .int .i64 0, .string ⟨#[102, 111, 103]⟩, .bool false, .bool false, .bool false, .int .i64 2, .int .i64 0, .int .i64 0, .int .i64 0]] U8) := Lib.hid hS_
  clear S4
  clear hg_ hu_ hS_ hg6
  refine @wpG_p _ _ _ _ _ (some 0) (.slice (some ⟨g7, 0, none⟩) 9 9) _ _ rfl (by rfl) (fun _ => rfl) ?_
  simp only [n1, n3]
  refine wpG_done (fun V10 hv11 => ?_)
  have S12 : Hid (St w noB [blk g7 35 [.string (bstr [97, 105, 114]), .bool false, .bool false, .bool false, .int .i64 1, .int .i64 0, .int .i64 0, .int .i64 0, .string ⟨#[115, 116, 111, 110, 101]⟩, .bool true, .bool false, .bool false, .int .i64 16, .int .i64 0, .int .i64 0, .int .i64 0, .string ⟨#[103, 108, 97, 115, 115]⟩, .bool true, .bool false, .bool false, .int .i64 1, .int .i64 0, .int .i64 0, .int .i64 0, .string ⟨#[108, 97, 109, 112]⟩, .bool true, .bool false, .bool false, .int .i64 16, .int .i64 15, .int .i64 14, .int .i64 10, .string ⟨#[115, 97, 110, 100]⟩, .bool true, .bool false, .bool true, .int .i64 16, .int .i64 0, .int .i64 0, .int .i64 0, .string ⟨#[119, 97, 116, 101, 114]⟩, .bool false, .bool true, .bool false, .int .i64 3, .int .i64 0, .int .i64 0, .int .i64 0, .string ⟨#[108, 101, 97, 118, 101, 115]⟩, .bool true, .bool false, .bool false, .int .i64 2, .int .i64 0, .int .i64 0, .int .i64 0, .string ⟨#[101, 109, 98, 101, 114]⟩, .bool true, .bool false, .bool false, .int .i64 16, .int .i64 9, .int .i64 3, .int .i64 0, .string ⟨#[102, 111, 103]⟩, .bool false, .bool false, .bool false, .int .i64 2, .int .i64 0, .int .i64 0, .int .i64 0]] V10) := Lib.hid (S9.out.gr hv11)
  clear S9
  clear hv11
  refine ⟨rfl, hK _ _ ?_⟩
  clear hK
  go_wp2_with fail
  go_ret
  have S13 : Hid (St w noB [own (.slice (some ⟨g7, 0, none⟩) 9 9) 35 8 9 (mcs Ma.dflt)] V10) := Lib.hid ((S12.out.front 0 rfl).toOwn 8 9 (by rfl) (by simp [maxLen]))
  clear S12
  exact ⟨g7, rfl, S13.out⟩
set_option maxRecDepth 1000000 in
set_option maxHeartbeats 4000000 in
theorem rdefault_any (w : World) :
    Calls Tryd.prog 21 #[] w fun e w' => ∃ g, e = .returned (.slice (some ⟨g, 0, none⟩) 9 9) ∧ St w noB [own (.slice (some ⟨g, 0, none⟩) 9 9) 35 8 9 (mcs Ma.dflt)] w' := by
  have S1 : Hid (St w noB [] w) := Lib.hid (St.start w)
  go_enter Tryd.func21, Tryd.ntmps21
  go_upto_region 0 with fail
  refine wpG_region_k (fun K hK => ?_)
  refine @wpG_p _ _ _ _ _ (some 0) (.slice none 0 0) _ _ rfl (by rfl) (fun _ => rfl) ?_
  simp only [n1, n3]
  refine wpG_done (fun V2 hv3 => ?_)
  have S4 : Hid (St w noB [] V2) := Lib.hid (S1.out.gr hv3)
  clear S1
  clear hv3
  refine ⟨rfl, hK _ _ ?_⟩
  clear hK
  go_upto_region 1 with fail
  refine wpG_region_k (fun K hK => ?_)
  refine @wpG_tk _ _ _ _ _ (some 1) (.agg #[.string (bstr [97, 105, 114]), .bool false, .bool false, .bool false, .int .i64 1, .int .i64 0, .int .i64 0, .int .i64 0]) _ _ rfl (.call (f := 31) (args := #[]) (by rfl) (fun W => by go_simp) (fun W hg => rair_any W)) ?_
  simp only [n1, n3, n4]
  refine @wpG_p _ _ _ _ _ (some 2) (.agg #[.string ⟨#[115, 116, 111, 110, 101]⟩, .bool true, .bool false, .bool false, .int .i64 16, .int .i64 0, .int .i64 0, .int .i64 0]) _ _ rfl (by rfl) (fun W => by go_simp) ?_
  simp only [n1, n3, n4]
  refine @wpG_p _ _ _ _ _ (some 3) (.agg #[.string ⟨#[103, 108, 97, 115, 115]⟩, .bool true, .bool false, .bool false, .int .i64 1, .int .i64 0, .int .i64 0, .int .i64 0]) _ _ rfl (by rfl) (fun W => by go_simp) ?_
  simp only [n1, n3, n4]
  refine @wpG_p _ _ _ _ _ (some 4) (.agg #[.int .i64 15, .int .i64 14, .int .i64 10]) _ _ rfl (by rfl) (fun W => by go_simp) ?_
  simp only [n1, n3, n4]
  refine @wpG_p _ _ _ _ _ (some 5) (.agg #[.string ⟨#[108, 97, 109, 112]⟩, .bool true, .bool false, .bool false, .int .i64 16, .int .i64 15, .int .i64 14, .int .i64 10]) _ _ rfl (by rfl) (fun W => by go_simp) ?_
  simp only [n1, n3, n4]
  refine @wpG_p _ _ _ _ _ (some 6) (.agg #[.string ⟨#[115, 97, 110, 100]⟩, .bool true, .bool false, .bool true, .int .i64 16, .int .i64 0, .int .i64 0, .int .i64 0]) _ _ rfl (by rfl) (fun W => by go_simp) ?_
  simp only [n1, n3, n4]
  refine @wpG_p _ _ _ _ _ (some 7) (.agg #[.string ⟨#[119, 97, 116, 101, 114]⟩, .bool false, .bool true, .bool false, .int .i64 3, .int .i64 0, .int .i64 0, .int .i64 0]) _ _ rfl (by rfl) (fun W => by go_simp) ?_
  simp only [n1, n3, n4]
  refine @wpG_p _ _ _ _ _ (some 8) (.agg #[.string ⟨#[108, 101, 97, 118, 101, 115]⟩, .bool true, .bool false, .bool false, .int .i64 2, .int .i64 0, .int .i64 0, .int .i64 0]) _ _ rfl (by rfl) (fun W => by go_simp) ?_
  simp only [n1, n3, n4]
  refine @wpG_p _ _ _ _ _ (some 9) (.agg #[.int .i64 9, .int .i64 3, .int .i64 0]) _ _ rfl (by rfl) (fun W => by go_simp) ?_
  simp only [n1, n3, n4]
  refine @wpG_p _ _ _ _ _ (some 10) (.agg #[.string ⟨#[101, 109, 98, 101, 114]⟩, .bool true, .bool false, .bool false, .int .i64 16, .int .i64 9, .int .i64 3, .int .i64 0]) _ _ rfl (by rfl) (fun W => by go_simp) ?_
  simp only [n1, n3, n4]
  refine @wpG_p _ _ _ _ _ (some 11) (.agg #[.string ⟨#[102, 111, 103]⟩, .bool false, .bool false, .bool false, .int .i64 2, .int .i64 0, .int .i64 0, .int .i64 0]) _ _ rfl (by rfl) (fun W => by go_simp) ?_
  simp only [n1, n3, n4]
  refine wpG_val (some 12) rfl (by rfl) (fun W5 hg6 => ⟨.slice (some ⟨W5.heap.size, 0, none⟩) 9 9, W5.alloc (.cells #[.string (bstr [97, 105, 114]), .bool false, .bool false, .bool false, .int .i64 1, .int .i64 0, .int .i64 0, .int .i64 0, .string ⟨#[115, 116, 111, 110, 101]⟩, .bool true, .bool false, .bool false, .int .i64 16, .int .i64 0, .int .i64 0, .int .i64 0, .string ⟨#[103, 108, 97, 115, 115]⟩, .bool true, .bool false, .bool false, .int .i64 1, .int .i64 0, .int .i64 0, .int .i64 0, .string ⟨#[108, 97, 109, 112]⟩, .bool true, .bool false, .bool false, .int .i64 16, .int .i64 15, .int .i64 14, .int .i64 10, .string ⟨#[115, 97, 110, 100]⟩, .bool true, .bool false, .bool true, .int .i64 16, .int .i64 0, .int .i64 0, .int .i64 0, .string ⟨#[119, 97, 116, 101, 114]⟩, .bool false, .bool true, .bool false, .int .i64 3, .int .i64 0, .int .i64 0, .int .i64 0, .string ⟨#[108, 101, 97, 118, 101, 115]⟩, .bool true, .bool false, .bool false, .int .i64 2, .int .i64 0, .int .i64 0, .int .i64 0, .string ⟨#[101, 109, 98, 101, 114]⟩, .bool true, .bool false, .bool false, .int .i64 16, .int .i64 9, .int .i64 3, .int .i64 0, .string ⟨#[102, 111, 103]⟩, .bool false, .bool false, .bool false, .int .i64 2, .int .i64 0, .int .i64 0, .int .i64 0] 35), by (go_simp <;> rfl), ?_⟩)
  simp only [n1, n3, n4]
  obtain ⟨g7, U8, hg_, hu_, hS_⟩ := (S4.out.gr hg6).made [.string (bstr [97, 105, 114]), .bool false, .bool false, .bool false, .int .i64 1, .int .i64 0, .int .i64 0, .int .i64 0, .string ⟨#[115, 116, 111, 110, 101]⟩, .bool true, .bool false, .bool false, .int .i64 16, .int .i64 0, .int .i64 0, .int .i64 0, .string ⟨#[103, 108, 97, 115, 115]⟩, .bool true, .bool false, .bool false, .int .i64 1, .int .i64 0, .int .i64 0, .int .i64 0, .string ⟨#[108, 97, 109, 112]⟩, .bool true, .bool false, .bool false, .int .i64 16, .int .i64 15, .int .i64 14, .int .i64 10, .string ⟨#[115, 97, 110, 100]⟩, .bool true, .bool false, .bool true, .int .i64 16, .int .i64 0, .int .i64 0, .int .i64 0, .string ⟨#[119, 97, 116, 101, 114]⟩, .bool false, .bool true, .bool false, .int .i64 3, .int .i64 0, .int .i64 0, .int .i64 0, .string ⟨#[108, 101, 97, 118, 101, 115]⟩, .bool true, .bool false, .bool false, .int .i64 2, .int .i64 0, .int .i64 0, .int .i64 0, .string ⟨#[101, 109, 98, 101, 114]⟩, .bool true, .bool false, .bool false, .int .i64 16, .int .i64 9, .int .i64 3, .int .i64 0, .string ⟨#[102, 111, 103]⟩, .bool false, .bool false, .bool false, .int .i64 2, .int .i64 0, .int .i64 0, .int .i64 0] 35
  rw [← hu_, ← hg_]
  have S9 : Hid (St w noB [blk g7 35 [.string (bstr [97, 105, 114]), .bool false, .bool false, .bool false, .int .i64 1, .int .i64 0, .int .i64 0, .int .i64 0, .string ⟨#[115, 116, 111, 110, 101]⟩, .bool true, .bool false, .bool false, .int .i64 16, .int .i64 0, .int .i64 0, .int .i64 0, .string ⟨#[103, 108, 97, 115, 115]⟩, .bool true, .bool false, .bool false, .int .i64 1, .int .i64 0, .int .i64 0, .int .i64 0, .string ⟨#[108, 97, 109, 112]⟩, .bool true, .bool false, .bool false, .int .i64 16, .int .i64 15, .int .i64 14, .int .i64 10, .string ⟨#[115, 97, 110, 100]⟩, .bool true, .bool false, .bool true, .int .i64 16, .int .i64 0, .int .i64 0, .int .i64 0, .string ⟨#[119, 97, 116, 101, 114]⟩, .bool false, .bool true, .bool false, .int .i64 3, .int .i64 0, .int .i64 0, .int .i64 0, .string ⟨#[108, 101, 97, 118, 101, 115]⟩, .bool true, .bool false, .bool false, .int .i64 2, .int .i64 0, .int .i64 0, .int .i64 0, .string ⟨#[101, 109, 98, 101, 114]⟩, .bool true, .bool false, .bool false, .int .i64 16, .int .i64 9, .int .i64 3, .int .i64 0, .string ⟨#[102, 111, 103]⟩, .bool false, .bool false, .bool false, .int .i64 2, .int .i64 0, .int .i64 0, .int .i64 0]] U8) := Lib.hid hS_
  clear S4
  clear hg_ hu_ hS_ hg6
  refine @wpG_p _ _ _ _ _ (some 0) (.slice (some ⟨g7, 0, none⟩) 9 9) _ _ rfl (by rfl) (fun _ => rfl) ?_
  simp only [n1, n3]
  refine wpG_done (fun V10 hv11 => ?_)
  have S12 : Hid (St w noB [blk g7 35 [.string (bstr [97, 105, 114]), .bool false, .bool false, .bool false, .int .i64 1, .int .i64 0, .int .i64 0, .int .i64 0, .string ⟨#[115, 116, 111, 110, 101]⟩, .bool true, .bool false, .bool false, .int .i64 16, .int .i64 0, .int .i64 0, .int .i64 0, .string ⟨#[103, 108, 97, 115, 115]⟩, .bool true, .bool false, .bool false, .int .i64 1, .int .i64 0, .int .i64 0, .int .i64 0, .string ⟨#[108, 97, 109, 112]⟩, .bool true, .bool false, .bool false, .int .i64 16, .int .i64 15, .int .i64 14, .int .i64 10, .string ⟨#[115, 97, 110, 100]⟩, .bool true, .bool false, .bool true, .int .i64 16, .int .i64 0, .int .i64 0, .int .i64 0, .string ⟨#[119, 97, 116, 101, 114]⟩, .bool false, .bool true, .bool false, .int .i64 3, .int .i64 0, .int .i64 0, .int .i64 0, .string ⟨#[108, 101, 97, 118, 101, 115]⟩, .bool true, .bool false, .bool false, .int .i64 2, .int .i64 0, .int .i64 0, .int .i64 0, .string ⟨#[101, 109, 98, 101, 114]⟩, .bool true, .bool false, .bool false, .int .i64 16, .int .i64 9, .int .i64 3, .int .i64 0, .string ⟨#[102, 111, 103]⟩, .bool false, .bool false, .bool false, .int .i64 2, .int .i64 0, .int .i64 0, .int .i64 0]] V10) := Lib.hid (S9.out.gr hv11)
  clear S9
  clear hv11
  refine ⟨rfl, hK _ _ ?_⟩
  clear hK
  go_wp2_with fail
  go_ret
  have S13 : Hid (St w noB [own (.slice (some ⟨g7, 0, none⟩) 9 9) 35 8 9 (mcs Ma.dflt)] V10) := Lib.hid ((S12.out.front 0 rfl).toOwn 8 9 (by rfl) (by simp [maxLen]))
  clear S12
  exact ⟨g7, rfl, S13.out⟩
set_option maxRecDepth 1000000 in
set_option maxHeartbeats 4000000 in
theorem printLine_any (n : List UInt8) (s l f : Bool) (fd a b c : Int) (w : World) (hK : Kt w) (hv : Ma.vld (⟨n, s, l, f, fd, a, b, c⟩ : Ma.Mt) = true) :
    Calls Tryd.prog 34 #[.agg #[.string (bstr n), .bool s, .bool l, .bool f, .int .i64 fd, .int .i64 a, .int .i64 b, .int .i64 c]] w fun e w' => e = .returned (.string (bstr (Ma.line (⟨n, s, l, f, fd, a, b, c⟩ : Ma.Mt) ++ [10]))) ∧ Below w.heap.size w w' := by
  have hkd := Ma.kdn_le s l f
  obtain ⟨hk_, ⟨ha0, ha1⟩, ⟨hb0, hb1⟩, ⟨hc0, hc1⟩, hn_, ⟨hf0, hf1⟩⟩ := Ma.vld_of hv
  simp only at hk_ ha0 ha1 hb0 hb1 hc0 hc1 hn_ hf0 hf1
  obtain ⟨hn0, hn1⟩ := Ma.name_le hn_
  have HKS := Lib.hid hk_
  clear hk_ hn_ hv
  have hifd := Ma.itoa_le (n := fd) (by omega) (by omega)
  have hia := Ma.itoa_le (n := a) (by omega) (by omega)
  have hib := Ma.itoa_le (n := b) (by omega) (by omega)
  have hic := Ma.itoa_le (n := c) (by omega) (by omega)
  have HK := Lib.hid hK
  clear hK
  have S1 : Hid (St w noB [] w) := Lib.hid (St.start w)
  go_enter Tryd.func34, Tryd.ntmps34
  go_upto_region 0 with fail
  refine wpG_region_k (fun K hK => ?_)
  refine wpG_val (some 1) rfl (by rfl) (fun W2 hg3 => ⟨.pointer (some ⟨W2.heap.size, 0, none⟩), W2.alloc (.cells #[.string (bstr n), .bool s, .bool l, .bool f, .int .i64 fd, .int .i64 a, .int .i64 b, .int .i64 c] 35), by (first | (go_simp; done) | (go_simp <;> rfl)), ?_⟩)
  simp only [n1, n3, n4]
  obtain ⟨g4, U5, hg_, hu_, hS_⟩ := (S1.out.gr hg3).made [.string (bstr n), .bool s, .bool l, .bool f, .int .i64 fd, .int .i64 a, .int .i64 b, .int .i64 c] 35
  rw [← hu_, ← hg_]
  have S6 : Hid (St w noB [blk g4 35 [.string (bstr n), .bool s, .bool l, .bool f, .int .i64 fd, .int .i64 a, .int .i64 b, .int .i64 c]] U5) := Lib.hid hS_
  clear S1
  clear hg_ hu_ hS_ hg3
  refine @wpG_p _ _ _ _ _ (some 2) (.string ⟨#[]⟩) _ _ rfl (by rfl) (fun _ => rfl) ?_
  simp only [n1, n3, n4]
  refine wpG_done (fun V7 hv8 => ?_)
  have S9 : Hid (St w noB [blk g4 35 [.string (bstr n), .bool s, .bool l, .bool f, .int .i64 fd, .int .i64 a, .int .i64 b, .int .i64 c]] V7) := Lib.hid (S6.out.gr hv8)
  clear S6
  clear hv8
  refine ⟨rfl, hK _ _ ?_⟩
  clear hK
  go_upto_region 1 with fail
  refine wpG_region_k (fun K hK => ?_)
  refine @wpG_tk _ _ _ _ _ (some 9) (.agg #[.string (bstr n), .bool s, .bool l, .bool f, .int .i64 fd, .int .i64 a, .int .i64 b, .int .i64 c]) _ _ rfl (.load_mid (by rfl) 35 (.tmp 1) rfl g4 0 rfl [.string (bstr n), .bool s, .bool l, .bool f, .int .i64 fd, .int .i64 a, .int .i64 b, .int .i64 c] _ (fun W hg => (S9.out.gr hg).range 0 rfl 0 8 rfl) Tryd.underlying35 rfl (by kernel_rfl)) ?_
  simp only [n1, n3, n4]
  refine @wpG_tk _ _ _ _ _ (some 10) (.tuple #[.string (bstr (Ma.kdn s l f)), .bool ((Ma.kd s l f).isSome)]) _ _ rfl (.call (f := 42) (args := #[.agg #[.string (bstr n), .bool s, .bool l, .bool f, .int .i64 fd, .int .i64 a, .int .i64 b, .int .i64 c]]) (by rfl) (fun W => by go_simp) (fun W hg => kindOf_any n s l f fd a b c W (HK.out.gr (S9.out.gr hg).bel))) ?_
  simp only [n1, n3, n4]
  refine @wpG_p _ _ _ _ _ (some 8) (.tuple #[.string (bstr (Ma.kdn s l f)), .bool ((Ma.kd s l f).isSome)]) _ _ rfl (by rfl) (fun _ => rfl) ?_
  simp only [n1, n3, n4]
  refine @wpG_p _ _ _ _ _ (some 11) (.string (bstr (Ma.kdn s l f))) _ _ rfl (by rfl) (fun W => by go_simp) ?_
  simp only [n1, n3, n4]
  refine @wpG_p _ _ _ _ _ (some 12) (.bool ((Ma.kd s l f).isSome)) _ _ rfl (by rfl) (fun W => by go_simp) ?_
  simp only [n1, n3, n4]
  refine @wpG_p _ _ _ _ _ (some 3) (.string (bstr (Ma.kdn s l f))) _ _ rfl (by rfl) (fun _ => rfl) ?_
  simp only [n1, n3, n4]
  refine @wpG_p _ _ _ _ _ (some 4) (.bool ((Ma.kd s l f).isSome)) _ _ rfl (by rfl) (fun _ => rfl) ?_
  simp only [n1, n3, n4]
  refine wpG_done (fun V10 hv11 => ?_)
  have S12 : Hid (St w noB [blk g4 35 [.string (bstr n), .bool s, .bool l, .bool f, .int .i64 fd, .int .i64 a, .int .i64 b, .int .i64 c]] V10) := Lib.hid (S9.out.gr hv11)
  clear S9
  clear hv11
  refine ⟨rfl, hK _ _ ?_⟩
  clear hK
  go_upto_region 2 with fail
  refine wpK_region_k (by kernel_rfl) (fun K hK => ?_)
  refine wpK_ta (i := 0) (some 13) (v := .pointer (some ⟨g4, 0, none⟩)) rfl rfl (by kernel_rfl) (fun _ _ _ h => onN_panic h) (Or.inl ⟨by rfl, fun W => by go_simp⟩) ?_
  simp only [n1, n3, n4]
  refine wpK_ta (i := 2) (some 15) (v := .string (bstr (Ma.kdn s l f))) rfl rfl (by kernel_rfl) (fun _ _ _ h => onN_panic h) (Or.inl ⟨rfl, fun _ => rfl⟩) ?_
  simp only [n1, n3, n4]
  refine wpK_ta (i := 3) (some 16) (v := .pointer (some ⟨g4, 4, none⟩)) rfl rfl (by kernel_rfl) (fun _ _ _ h => onN_panic h) (Or.inl ⟨by rfl, fun W => by go_simp⟩) ?_
  simp only [n1, n3, n4]
  refine wpK_tk (i := 1) (some 14) (v := .string (bstr n)) rfl rfl (by kernel_rfl) (fun _ _ _ h => onN_panic h) (.val (by rfl) (fun W hg => by have c := (S12.out.gr (Gr.un hg)).cell 0 rfl 0 rfl; go_simp)) ?_
  simp only [n1, n3, n4]
  refine wpK_tk (i := 4) (some 17) (v := .int .i64 fd) rfl rfl (by kernel_rfl) (fun _ _ _ h => onN_panic h) (.val (by rfl) (fun W hg => by have c := (S12.out.gr (Gr.un hg)).cell 0 rfl 4 rfl; go_simp)) ?_
  simp only [n1, n3, n4]
  refine wpK_tk (i := 5) (some 18) (v := .string (bstr (Lib.itoa fd))) rfl rfl (by kernel_rfl) (fun _ _ _ h => onN_panic h) (.call (f := 46) (args := #[.int .i64 fd]) (by rfl) (fun W => by go_simp) (fun W hg => itoas_any fd W ⟨by omega, by omega⟩)) ?_
  simp only [n1, n3, n4]
  refine wpK_val (i := 6) (some 19) rfl rfl (by kernel_rfl) (by rfl) (fun W13 hg14 => ⟨.slice (some ⟨W13.heap.size, 0, none⟩) 4 4, W13.alloc (.cells #[.string (bstr n), .string (bstr (Ma.kdn s l f)), .string ⟨#[102, 97, 100, 101]⟩, .string (bstr (Lib.itoa fd))] 9), by (go_simp <;> rfl), Gr.al _ _, ?_⟩)
  simp only [n1, n3, n4]
  obtain ⟨g15, U16, hg_, hu_, hS_⟩ := (S12.out.gr (Gr.un hg14)).made [.string (bstr n), .string (bstr (Ma.kdn s l f)), .string ⟨#[102, 97, 100, 101]⟩, .string (bstr (Lib.itoa fd))] 9
  rw [← hu_, ← hg_]
  have S17 : Hid (St w noB [blk g15 9 [.string (bstr n), .string (bstr (Ma.kdn s l f)), .string ⟨#[102, 97, 100, 101]⟩, .string (bstr (Lib.itoa fd))], blk g4 35 [.string (bstr n), .bool s, .bool l, .bool f, .int .i64 fd, .int .i64 a, .int .i64 b, .int .i64 c]] U16) := Lib.hid hS_
  clear S12
  clear hg_ hu_ hS_ hg14
  refine wpK_ta (i := 7) (some 5) (v := .slice (some ⟨g15, 0, none⟩) 4 4) rfl rfl (by kernel_rfl) (fun _ _ _ h => onN_panic h) (Or.inl ⟨rfl, fun _ => rfl⟩) ?_
  simp only [n1, n3, n4]
  refine wpK_done (by kernel_rfl) (fun V18 hv19 => ?_) _
  have S20 : Hid (St w noB [blk g15 9 [.string (bstr n), .string (bstr (Ma.kdn s l f)), .string ⟨#[102, 97, 100, 101]⟩, .string (bstr (Lib.itoa fd))], blk g4 35 [.string (bstr n), .bool s, .bool l, .bool f, .int .i64 fd, .int .i64 a, .int .i64 b, .int .i64 c]] V18) := Lib.hid (S17.out.gr hv19)
  clear S17
  clear hv19
  refine ⟨rfl, hK _ _ ?_⟩
  clear hK
  go_upto_region 3 with fail
  refine wpG_region_k (fun K hK => ?_)
  refine @wpG_p _ _ _ _ _ (some 20) (.pointer (some ⟨g4, 5, none⟩)) _ _ rfl (by rfl) (fun W => by go_simp) ?_
  simp only [n1, n3, n4]
  refine @wpG_tk _ _ _ _ _ (some 21) (.agg #[.int .i64 a, .int .i64 b, .int .i64 c]) _ _ rfl (.load_mid (by rfl) 33 (.tmp 20) rfl g4 5 rfl [.int .i64 a, .int .i64 b, .int .i64 c] _ (fun W hg => (S20.out.gr hg).range 1 rfl 5 3 rfl) Tryd.underlying33 rfl (by kernel_rfl)) ?_
  simp only [n1, n3, n4]
  refine @wpG_tk _ _ _ _ _ (some 22) (.bool (!decide (a = 0 ∧ b = 0 ∧ c = 0))) _ _ rfl (.call (f := 47) (args := #[.agg #[.int .i64 a, .int .i64 b, .int .i64 c]]) (by rfl) (fun W => by go_simp) (fun W hg => emits_any a b c W)) ?_
  simp only [n1, n3, n4]
  refine wpG_done (fun V21 hv22 => ?_)
  have S23 : Hid (St w noB [blk g15 9 [.string (bstr n), .string (bstr (Ma.kdn s l f)), .string ⟨#[102, 97, 100, 101]⟩, .string (bstr (Lib.itoa fd))], blk g4 35 [.string (bstr n), .bool s, .bool l, .bool f, .int .i64 fd, .int .i64 a, .int .i64 b, .int .i64 c]] V21) := Lib.hid (S20.out.gr hv22)
  clear S20
  clear hv22
  refine ⟨rfl, hK _ _ ?_⟩
  clear hK
  obtain ⟨c24, hc24⟩ : ∃ q_, q_ = (!decide (a = 0 ∧ b = 0 ∧ c = 0)) := ⟨_, rfl⟩
  rw [← hc24]
  have Hc24 := Lib.hid hc24
  clear hc24
  cases c24 with
  | true =>
    have f25 := of_decide_eq_false (bnt Hc24.out)
    go_upto_region 4 with fail
    refine wpG_region_k (fun K hK => ?_)
    refine @wpG_p _ _ _ _ _ (some 23) (.slice (some ⟨g15, 0, none⟩) 4 4) _ _ rfl (by rfl) (fun _ => rfl) ?_
    simp only [n1, n3, n4]
    refine wpG_val (some 24) rfl (by rfl) (fun W26 hg27 => ⟨.slice (some ⟨W26.heap.size, 0, none⟩) 1 1, W26.alloc (.cells #[.string ⟨#[101, 109, 105, 116]⟩] 9), by (go_simp <;> rfl), ?_⟩)
    simp only [n1, n3, n4]
    obtain ⟨g28, U29, hg_, hu_, hS_⟩ := (S23.out.gr hg27).made [.string ⟨#[101, 109, 105, 116]⟩] 9
    rw [← hu_, ← hg_]
    have S30 : Hid (St w noB [blk g28 9 [.string ⟨#[101, 109, 105, 116]⟩], blk g15 9 [.string (bstr n), .string (bstr (Ma.kdn s l f)), .string ⟨#[102, 97, 100, 101]⟩, .string (bstr (Lib.itoa fd))], blk g4 35 [.string (bstr n), .bool s, .bool l, .bool f, .int .i64 fd, .int .i64 a, .int .i64 b, .int .i64 c]] U29) := Lib.hid hS_
    clear S23
    clear hg_ hu_ hS_ hg27
    have S31 : Hid (St w noB [own (.slice (some ⟨g15, 0, none⟩) 4 4) 9 1 4 ([.string (bstr n), .string (bstr (Ma.kdn s l f)), .string ⟨#[102, 97, 100, 101]⟩, .string (bstr (Lib.itoa fd))]), blk g28 9 [.string ⟨#[101, 109, 105, 116]⟩], blk g4 35 [.string (bstr n), .bool s, .bool l, .bool f, .int .i64 fd, .int .i64 a, .int .i64 b, .int .i64 c]] U29) := Lib.hid ((S30.out.front 1 rfl).toOwn 1 4 (by rfl) (by simp [maxLen]))
    clear S30
    refine wpG_appS (some 25) rfl rfl (.tmp 23) (.tmp 24) 68 68 rfl 9 1 16 Tryd.underlying68 (by kernel_rfl) (.slice (some ⟨g15, 0, none⟩) 4 4) 4 ([.string (bstr n), .string (bstr (Ma.kdn s l f)), .string ⟨#[102, 97, 100, 101]⟩, .string (bstr (Lib.itoa fd))]) S31.out (.slice (some ⟨g28, 0, none⟩) 1 1) 1 [.string ⟨#[101, 109, 105, 116]⟩] (fun W hg => src_lies Tryd.underlying68 1 rfl (fun h => by cases h) (by intro u hu; simp at hu; rcases hu with rfl <;> rfl) ((S31.out.gr hg).liesBlk 1 rfl)) rfl rfl (by simp only [maxLen]; omega) (by omega) (fun v32 W33 hS_ => ?_)
    simp only [n1, n3, n4]
    obtain ⟨A34, k35, rfl, hle_, hcap_, _⟩ := own_shape (hS_.ownr 0 rfl)
    have S36 : Hid (St w noB [own (.slice A34 5 k35) 9 1 5 ([.string (bstr n), .string (bstr (Ma.kdn s l f)), .string ⟨#[102, 97, 100, 101]⟩, .string (bstr (Lib.itoa fd))] ++ [.string ⟨#[101, 109, 105, 116]⟩]), blk g28 9 [.string ⟨#[101, 109, 105, 116]⟩], blk g4 35 [.string (bstr n), .bool s, .bool l, .bool f, .int .i64 fd, .int .i64 a, .int .i64 b, .int .i64 c]] W33) := Lib.hid hS_
    clear S31
    clear hS_
    refine @wpG_p _ _ _ _ _ (some 5) (.slice A34 5 k35) _ _ rfl (by rfl) (fun _ => rfl) ?_
    simp only [n1, n3, n4]
    refine wpG_done (fun V37 hv38 => ?_)
    have S39 : Hid (St w noB [own (.slice A34 5 k35) 9 1 5 ([.string (bstr n), .string (bstr (Ma.kdn s l f)), .string ⟨#[102, 97, 100, 101]⟩, .string (bstr (Lib.itoa fd))] ++ [.string ⟨#[101, 109, 105, 116]⟩]), blk g28 9 [.string ⟨#[101, 109, 105, 116]⟩], blk g4 35 [.string (bstr n), .bool s, .bool l, .bool f, .int .i64 fd, .int .i64 a, .int .i64 b, .int .i64 c]] V37) := Lib.hid (S36.out.gr hv38)
    clear S36
    clear hv38
    refine ⟨rfl, hK _ _ ?_⟩
    clear hK
    go_upto_region 5 with fail
    refine wpG_region_k (fun K hK => ?_)
    refine @wpG_p _ _ _ _ _ (some 26) (.pointer (some ⟨g4, 5, none⟩)) _ _ rfl (by rfl) (fun W => by go_simp) ?_
    simp only [n1, n3, n4]
    refine @wpG_tk _ _ _ _ _ (some 27) (.agg #[.int .i64 a, .int .i64 b, .int .i64 c]) _ _ rfl (.load_mid (by rfl) 33 (.tmp 26) rfl g4 5 rfl [.int .i64 a, .int .i64 b, .int .i64 c] _ (fun W hg => (S39.out.gr hg).range 2 rfl 5 3 rfl) Tryd.underlying33 rfl (by kernel_rfl)) ?_
    simp only [n1, n3, n4]
    refine @wpG_p _ _ _ _ _ (some 28) (.int .i64 0) _ _ rfl (by rfl) (fun _ => rfl) ?_
    simp only [n1, n3, n4]
    refine wpG_done (fun V40 hv41 => ?_)
    have S42 : Hid (St w noB [own (.slice A34 5 k35) 9 1 5 ([.string (bstr n), .string (bstr (Ma.kdn s l f)), .string ⟨#[102, 97, 100, 101]⟩, .string (bstr (Lib.itoa fd))] ++ [.string ⟨#[101, 109, 105, 116]⟩]), blk g28 9 [.string ⟨#[101, 109, 105, 116]⟩], blk g4 35 [.string (bstr n), .bool s, .bool l, .bool f, .int .i64 fd, .int .i64 a, .int .i64 b, .int .i64 c]] V40) := Lib.hid (S39.out.gr hv41)
    clear S39
    clear hv41
    refine ⟨rfl, hK _ _ ?_⟩
    clear hK
    go_wp2_with fail
    refine wp_loop_rounds 4 ?_
    rw [rounds_succ]
    go_upto_region 6 with fail
    refine wpG_region_k (fun K hK => ?_)
    refine @wpG_p _ _ _ _ _ (some 29) (.bool true) _ _ rfl (by rfl) (fun W => by go_simp) ?_
    simp only [n1, n3, n4]
    refine wpG_done (fun V43 hv44 => ?_)
    have S45 : Hid (St w noB [own (.slice A34 5 k35) 9 1 5 ([.string (bstr n), .string (bstr (Ma.kdn s l f)), .string ⟨#[102, 97, 100, 101]⟩, .string (bstr (Lib.itoa fd))] ++ [.string ⟨#[101, 109, 105, 116]⟩]), blk g28 9 [.string ⟨#[101, 109, 105, 116]⟩], blk g4 35 [.string (bstr n), .bool s, .bool l, .bool f, .int .i64 fd, .int .i64 a, .int .i64 b, .int .i64 c]] V43) := Lib.hid (S42.out.gr hv44)
    clear S42
    clear hv44
    refine ⟨rfl, hK _ _ ?_⟩
    clear hK
    go_upto_region 7 with fail
    refine wpG_region_k (fun K hK => ?_)
    refine @wpG_p _ _ _ _ _ (some 30) (.int .i64 a) _ _ rfl (by rfl) (fun W => by first | kernel_rfl | (go_simp; done) | (go_simp <;> rfl)) ?_
    simp only [n1, n3, n4]
    refine @wpG_p _ _ _ _ _ (some 7) (.int .i64 a) _ _ rfl (by rfl) (fun _ => rfl) ?_
    simp only [n1, n3, n4]
    refine wpG_done (fun V46 hv47 => ?_)
    have S48 : Hid (St w noB [own (.slice A34 5 k35) 9 1 5 ([.string (bstr n), .string (bstr (Ma.kdn s l f)), .string ⟨#[102, 97, 100, 101]⟩, .string (bstr (Lib.itoa fd))] ++ [.string ⟨#[101, 109, 105, 116]⟩]), blk g28 9 [.string ⟨#[101, 109, 105, 116]⟩], blk g4 35 [.string (bstr n), .bool s, .bool l, .bool f, .int .i64 fd, .int .i64 a, .int .i64 b, .int .i64 c]] V46) := Lib.hid (S45.out.gr hv47)
    clear S45
    clear hv47
    refine ⟨rfl, hK _ _ ?_⟩
    clear hK
    go_upto_region 8 with fail
    refine wpG_region_k (fun K hK => ?_)
    refine @wpG_p _ _ _ _ _ (some 31) (.slice A34 5 k35) _ _ rfl (by rfl) (fun _ => rfl) ?_
    simp only [n1, n3, n4]
    refine @wpG_p _ _ _ _ _ (some 32) (.int .i64 a) _ _ rfl (by rfl) (fun _ => rfl) ?_
    simp only [n1, n3, n4]
    refine @wpG_tk _ _ _ _ _ (some 33) (.string (bstr (Lib.itoa a))) _ _ rfl (.call (f := 46) (args := #[.int .i64 a]) (by rfl) (fun W => by go_simp) (fun W hg => itoas_any a W ⟨by omega, by omega⟩)) ?_
    simp only [n1, n3, n4]
    refine wpG_val (some 34) rfl (by rfl) (fun W49 hg50 => ⟨.slice (some ⟨W49.heap.size, 0, none⟩) 1 1, W49.alloc (.cells #[.string (bstr (Lib.itoa a))] 9), by (go_simp <;> rfl), ?_⟩)
    simp only [n1, n3, n4]
    obtain ⟨g51, U52, hg_, hu_, hS_⟩ := (S48.out.gr hg50).made [.string (bstr (Lib.itoa a))] 9
    rw [← hu_, ← hg_]
    have S53 : Hid (St w noB [blk g51 9 [.string (bstr (Lib.itoa a))], own (.slice A34 5 k35) 9 1 5 ([.string (bstr n), .string (bstr (Ma.kdn s l f)), .string ⟨#[102, 97, 100, 101]⟩, .string (bstr (Lib.itoa fd))] ++ [.string ⟨#[101, 109, 105, 116]⟩]), blk g28 9 [.string ⟨#[101, 109, 105, 116]⟩], blk g4 35 [.string (bstr n), .bool s, .bool l, .bool f, .int .i64 fd, .int .i64 a, .int .i64 b, .int .i64 c]] U52) := Lib.hid hS_
    clear S48
    clear hg_ hu_ hS_ hg50
    have S54 : Hid (St w noB [own (.slice A34 5 k35) 9 1 5 ([.string (bstr n), .string (bstr (Ma.kdn s l f)), .string ⟨#[102, 97, 100, 101]⟩, .string (bstr (Lib.itoa fd))] ++ [.string ⟨#[101, 109, 105, 116]⟩]), blk g51 9 [.string (bstr (Lib.itoa a))], blk g28 9 [.string ⟨#[101, 109, 105, 116]⟩], blk g4 35 [.string (bstr n), .bool s, .bool l, .bool f, .int .i64 fd, .int .i64 a, .int .i64 b, .int .i64 c]] U52) := Lib.hid (S53.out.front 1 rfl)
    clear S53
    refine wpG_appS (some 35) rfl rfl (.tmp 31) (.tmp 34) 68 68 rfl 9 1 16 Tryd.underlying68 (by kernel_rfl) (.slice A34 5 k35) 5 ([.string (bstr n), .string (bstr (Ma.kdn s l f)), .string ⟨#[102, 97, 100, 101]⟩, .string (bstr (Lib.itoa fd))] ++ [.string ⟨#[101, 109, 105, 116]⟩]) S54.out (.slice (some ⟨g51, 0, none⟩) 1 1) 1 [.string (bstr (Lib.itoa a))] (fun W hg => src_lies Tryd.underlying68 1 rfl (fun h => by cases h) (by intro u hu; simp at hu; rcases hu with rfl <;> rfl) ((S54.out.gr hg).liesBlk 1 rfl)) rfl rfl (by simp only [maxLen]; omega) (by omega) (fun v55 W56 hS_ => ?_)
    simp only [n1, n3, n4]
    obtain ⟨A57, k58, rfl, hle_, hcap_, _⟩ := own_shape (hS_.ownr 0 rfl)
    have S59 : Hid (St w noB [own (.slice A57 6 k58) 9 1 6 ([.string (bstr n), .string (bstr (Ma.kdn s l f)), .string ⟨#[102, 97, 100, 101]⟩, .string (bstr (Lib.itoa fd))] ++ [.string ⟨#[101, 109, 105, 116]⟩] ++ [.string (bstr (Lib.itoa a))]), blk g51 9 [.string (bstr (Lib.itoa a))], blk g28 9 [.string ⟨#[101, 109, 105, 116]⟩], blk g4 35 [.string (bstr n), .bool s, .bool l, .bool f, .int .i64 fd, .int .i64 a, .int .i64 b, .int .i64 c]] W56) := Lib.hid hS_
    clear S54
    clear hS_
    refine @wpG_p _ _ _ _ _ (some 5) (.slice A57 6 k58) _ _ rfl (by rfl) (fun _ => rfl) ?_
    simp only [n1, n3, n4]
    refine wpG_done (fun V60 hv61 => ?_)
    have S62 : Hid (St w noB [own (.slice A57 6 k58) 9 1 6 ([.string (bstr n), .string (bstr (Ma.kdn s l f)), .string ⟨#[102, 97, 100, 101]⟩, .string (bstr (Lib.itoa fd))] ++ [.string ⟨#[101, 109, 105, 116]⟩] ++ [.string (bstr (Lib.itoa a))]), blk g51 9 [.string (bstr (Lib.itoa a))], blk g28 9 [.string ⟨#[101, 109, 105, 116]⟩], blk g4 35 [.string (bstr n), .bool s, .bool l, .bool f, .int .i64 fd, .int .i64 a, .int .i64 b, .int .i64 c]] V60) := Lib.hid (S59.out.gr hv61)
    clear S59
    clear hv61
    refine ⟨rfl, hK _ _ ?_⟩
    clear hK
    go_upto_region 9 with fail
    refine wpG_region_k (fun K hK => ?_)
    refine @wpG_p _ _ _ _ _ (some 36) (.int .i64 1) _ _ rfl (by rfl) (fun W => by go_simp <;> rfl) ?_
    simp only [n1, n3, n4]
    refine @wpG_p _ _ _ _ _ (some 28) (.int .i64 1) _ _ rfl (by rfl) (fun _ => rfl) ?_
    simp only [n1, n3, n4]
    refine wpG_done (fun V63 hv64 => ?_)
    have S65 : Hid (St w noB [own (.slice A57 6 k58) 9 1 6 ([.string (bstr n), .string (bstr (Ma.kdn s l f)), .string ⟨#[102, 97, 100, 101]⟩, .string (bstr (Lib.itoa fd))] ++ [.string ⟨#[101, 109, 105, 116]⟩] ++ [.string (bstr (Lib.itoa a))]), blk g51 9 [.string (bstr (Lib.itoa a))], blk g28 9 [.string ⟨#[101, 109, 105, 116]⟩], blk g4 35 [.string (bstr n), .bool s, .bool l, .bool f, .int .i64 fd, .int .i64 a, .int .i64 b, .int .i64 c]] V63) := Lib.hid (S62.out.gr hv64)
    clear S62
    clear hv64
    refine ⟨rfl, hK _ _ ?_⟩
    clear hK
    go_wp2_with fail
    rw [rounds_succ]
    go_upto_region 6 with fail
    refine wpG_region_k (fun K hK => ?_)
    refine @wpG_p _ _ _ _ _ (some 29) (.bool true) _ _ rfl (by rfl) (fun W => by go_simp) ?_
    simp only [n1, n3, n4]
    refine wpG_done (fun V66 hv67 => ?_)
    have S68 : Hid (St w noB [own (.slice A57 6 k58) 9 1 6 ([.string (bstr n), .string (bstr (Ma.kdn s l f)), .string ⟨#[102, 97, 100, 101]⟩, .string (bstr (Lib.itoa fd))] ++ [.string ⟨#[101, 109, 105, 116]⟩] ++ [.string (bstr (Lib.itoa a))]), blk g51 9 [.string (bstr (Lib.itoa a))], blk g28 9 [.string ⟨#[101, 109, 105, 116]⟩], blk g4 35 [.string (bstr n), .bool s, .bool l, .bool f, .int .i64 fd, .int .i64 a, .int .i64 b, .int .i64 c]] V66) := Lib.hid (S65.out.gr hv67)
    clear S65
    clear hv67
    refine ⟨rfl, hK _ _ ?_⟩
    clear hK
    go_upto_region 7 with fail
    refine wpG_region_k (fun K hK => ?_)
    refine @wpG_p _ _ _ _ _ (some 30) (.int .i64 b) _ _ rfl (by rfl) (fun W => by first | kernel_rfl | (go_simp; done) | (go_simp <;> rfl)) ?_
    simp only [n1, n3, n4]
    refine @wpG_p _ _ _ _ _ (some 7) (.int .i64 b) _ _ rfl (by rfl) (fun _ => rfl) ?_
    simp only [n1, n3, n4]
    refine wpG_done (fun V69 hv70 => ?_)
    have S71 : Hid (St w noB [own (.slice A57 6 k58) 9 1 6 ([.string (bstr n), .string (bstr (Ma.kdn s l f)), .string ⟨#[102, 97, 100, 101]⟩, .string (bstr (Lib.itoa fd))] ++ [.string ⟨#[101, 109, 105, 116]⟩] ++ [.string (bstr (Lib.itoa a))]), blk g51 9 [.string (bstr (Lib.itoa a))], blk g28 9 [.string ⟨#[101, 109, 105, 116]⟩], blk g4 35 [.string (bstr n), .bool s, .bool l, .bool f, .int .i64 fd, .int .i64 a, .int .i64 b, .int .i64 c]] V69) := Lib.hid (S68.out.gr hv70)
    clear S68
    clear hv70
    refine ⟨rfl, hK _ _ ?_⟩
    clear hK
    go_upto_region 8 with fail
    refine wpG_region_k (fun K hK => ?_)
    refine @wpG_p _ _ _ _ _ (some 31) (.slice A57 6 k58) _ _ rfl (by rfl) (fun _ => rfl) ?_
    simp only [n1, n3, n4]
    refine @wpG_p _ _ _ _ _ (some 32) (.int .i64 b) _ _ rfl (by rfl) (fun _ => rfl) ?_
    simp only [n1, n3, n4]
    refine @wpG_tk _ _ _ _ _ (some 33) (.string (bstr (Lib.itoa b))) _ _ rfl (.call (f := 46) (args := #[.int .i64 b]) (by rfl) (fun W => by go_simp) (fun W hg => itoas_any b W ⟨by omega, by omega⟩)) ?_
    simp only [n1, n3, n4]
    refine wpG_val (some 34) rfl (by rfl) (fun W72 hg73 => ⟨.slice (some ⟨W72.heap.size, 0, none⟩) 1 1, W72.alloc (.cells #[.string (bstr (Lib.itoa b))] 9), by (go_simp <;> rfl), ?_⟩)
    simp only [n1, n3, n4]
    obtain ⟨g74, U75, hg_, hu_, hS_⟩ := (S71.out.gr hg73).made [.string (bstr (Lib.itoa b))] 9
    rw [← hu_, ← hg_]
    have S76 : Hid (St w noB [blk g74 9 [.string (bstr (Lib.itoa b))], own (.slice A57 6 k58) 9 1 6 ([.string (bstr n), .string (bstr (Ma.kdn s l f)), .string ⟨#[102, 97, 100, 101]⟩, .string (bstr (Lib.itoa fd))] ++ [.string ⟨#[101, 109, 105, 116]⟩] ++ [.string (bstr (Lib.itoa a))]), blk g51 9 [.string (bstr (Lib.itoa a))], blk g28 9 [.string ⟨#[101, 109, 105, 116]⟩], blk g4 35 [.string (bstr n), .bool s, .bool l, .bool f, .int .i64 fd, .int .i64 a, .int .i64 b, .int .i64 c]] U75) := Lib.hid hS_
    clear S71
    clear hg_ hu_ hS_ hg73
    have S77 : Hid (St w noB [own (.slice A57 6 k58) 9 1 6 ([.string (bstr n), .string (bstr (Ma.kdn s l f)), .string ⟨#[102, 97, 100, 101]⟩, .string (bstr (Lib.itoa fd))] ++ [.string ⟨#[101, 109, 105, 116]⟩] ++ [.string (bstr (Lib.itoa a))]), blk g74 9 [.string (bstr (Lib.itoa b))], blk g51 9 [.string (bstr (Lib.itoa a))], blk g28 9 [.string ⟨#[101, 109, 105, 116]⟩], blk g4 35 [.string (bstr n), .bool s, .bool l, .bool f, .int .i64 fd, .int .i64 a, .int .i64 b, .int .i64 c]] U75) := Lib.hid (S76.out.front 1 rfl)
    clear S76
    refine wpG_appS (some 35) rfl rfl (.tmp 31) (.tmp 34) 68 68 rfl 9 1 16 Tryd.underlying68 (by kernel_rfl) (.slice A57 6 k58) 6 ([.string (bstr n), .string (bstr (Ma.kdn s l f)), .string ⟨#[102, 97, 100, 101]⟩, .string (bstr (Lib.itoa fd))] ++ [.string ⟨#[101, 109, 105, 116]⟩] ++ [.string (bstr (Lib.itoa a))]) S77.out (.slice (some ⟨g74, 0, none⟩) 1 1) 1 [.string (bstr (Lib.itoa b))] (fun W hg => src_lies Tryd.underlying68 1 rfl (fun h => by cases h) (by intro u hu; simp at hu; rcases hu with rfl <;> rfl) ((S77.out.gr hg).liesBlk 1 rfl)) rfl rfl (by simp only [maxLen]; omega) (by omega) (fun v78 W79 hS_ => ?_)
    simp only [n1, n3, n4]
    obtain ⟨A80, k81, rfl, hle_, hcap_, _⟩ := own_shape (hS_.ownr 0 rfl)
    have S82 : Hid (St w noB [own (.slice A80 7 k81) 9 1 7 ([.string (bstr n), .string (bstr (Ma.kdn s l f)), .string ⟨#[102, 97, 100, 101]⟩, .string (bstr (Lib.itoa fd))] ++ [.string ⟨#[101, 109, 105, 116]⟩] ++ [.string (bstr (Lib.itoa a))] ++ [.string (bstr (Lib.itoa b))]), blk g74 9 [.string (bstr (Lib.itoa b))], blk g51 9 [.string (bstr (Lib.itoa a))], blk g28 9 [.string ⟨#[101, 109, 105, 116]⟩], blk g4 35 [.string (bstr n), .bool s, .bool l, .bool f, .int .i64 fd, .int .i64 a, .int .i64 b, .int .i64 c]] W79) := Lib.hid hS_
    clear S77
    clear hS_
    refine @wpG_p _ _ _ _ _ (some 5) (.slice A80 7 k81) _ _ rfl (by rfl) (fun _ => rfl) ?_
    simp only [n1, n3, n4]
    refine wpG_done (fun V83 hv84 => ?_)
    have S85 : Hid (St w noB [own (.slice A80 7 k81) 9 1 7 ([.string (bstr n), .string (bstr (Ma.kdn s l f)), .string ⟨#[102, 97, 100, 101]⟩, .string (bstr (Lib.itoa fd))] ++ [.string ⟨#[101, 109, 105, 116]⟩] ++ [.string (bstr (Lib.itoa a))] ++ [.string (bstr (Lib.itoa b))]), blk g74 9 [.string (bstr (Lib.itoa b))], blk g51 9 [.string (bstr (Lib.itoa a))], blk g28 9 [.string ⟨#[101, 109, 105, 116]⟩], blk g4 35 [.string (bstr n), .bool s, .bool l, .bool f, .int .i64 fd, .int .i64 a, .int .i64 b, .int .i64 c]] V83) := Lib.hid (S82.out.gr hv84)
    clear S82
    clear hv84
    refine ⟨rfl, hK _ _ ?_⟩
    clear hK
    go_upto_region 9 with fail
    refine wpG_region_k (fun K hK => ?_)
    refine @wpG_p _ _ _ _ _ (some 36) (.int .i64 2) _ _ rfl (by rfl) (fun W => by go_simp <;> rfl) ?_
    simp only [n1, n3, n4]
    refine @wpG_p _ _ _ _ _ (some 28) (.int .i64 2) _ _ rfl (by rfl) (fun _ => rfl) ?_
    simp only [n1, n3, n4]
    refine wpG_done (fun V86 hv87 => ?_)
    have S88 : Hid (St w noB [own (.slice A80 7 k81) 9 1 7 ([.string (bstr n), .string (bstr (Ma.kdn s l f)), .string ⟨#[102, 97, 100, 101]⟩, .string (bstr (Lib.itoa fd))] ++ [.string ⟨#[101, 109, 105, 116]⟩] ++ [.string (bstr (Lib.itoa a))] ++ [.string (bstr (Lib.itoa b))]), blk g74 9 [.string (bstr (Lib.itoa b))], blk g51 9 [.string (bstr (Lib.itoa a))], blk g28 9 [.string ⟨#[101, 109, 105, 116]⟩], blk g4 35 [.string (bstr n), .bool s, .bool l, .bool f, .int .i64 fd, .int .i64 a, .int .i64 b, .int .i64 c]] V86) := Lib.hid (S85.out.gr hv87)
    clear S85
    clear hv87
    refine ⟨rfl, hK _ _ ?_⟩
    clear hK
    go_wp2_with fail
    rw [rounds_succ]
    go_upto_region 6 with fail
    refine wpG_region_k (fun K hK => ?_)
    refine @wpG_p _ _ _ _ _ (some 29) (.bool true) _ _ rfl (by rfl) (fun W => by go_simp) ?_
    simp only [n1, n3, n4]
    refine wpG_done (fun V89 hv90 => ?_)
    have S91 : Hid (St w noB [own (.slice A80 7 k81) 9 1 7 ([.string (bstr n), .string (bstr (Ma.kdn s l f)), .string ⟨#[102, 97, 100, 101]⟩, .string (bstr (Lib.itoa fd))] ++ [.string ⟨#[101, 109, 105, 116]⟩] ++ [.string (bstr (Lib.itoa a))] ++ [.string (bstr (Lib.itoa b))]), blk g74 9 [.string (bstr (Lib.itoa b))], blk g51 9 [.string (bstr (Lib.itoa a))], blk g28 9 [.string ⟨#[101, 109, 105, 116]⟩], blk g4 35 [.string (bstr n), .bool s, .bool l, .bool f, .int .i64 fd, .int .i64 a, .int .i64 b, .int .i64 c]] V89) := Lib.hid (S88.out.gr hv90)
    clear S88
    clear hv90
    refine ⟨rfl, hK _ _ ?_⟩
    clear hK
    go_upto_region 7 with fail
    refine wpG_region_k (fun K hK => ?_)
    refine @wpG_p _ _ _ _ _ (some 30) (.int .i64 c) _ _ rfl (by rfl) (fun W => by first | kernel_rfl | (go_simp; done) | (go_simp <;> rfl)) ?_
    simp only [n1, n3, n4]
    refine @wpG_p _ _ _ _ _ (some 7) (.int .i64 c) _ _ rfl (by rfl) (fun _ => rfl) ?_
    simp only [n1, n3, n4]
    refine wpG_done (fun V92 hv93 => ?_)
    have S94 : Hid (St w noB [own (.slice A80 7 k81) 9 1 7 ([.string (bstr n), .string (bstr (Ma.kdn s l f)), .string ⟨#[102, 97, 100, 101]⟩, .string (bstr (Lib.itoa fd))] ++ [.string ⟨#[101, 109, 105, 116]⟩] ++ [.string (bstr (Lib.itoa a))] ++ [.string (bstr (Lib.itoa b))]), blk g74 9 [.string (bstr (Lib.itoa b))], blk g51 9 [.string (bstr (Lib.itoa a))], blk g28 9 [.string ⟨#[101, 109, 105, 116]⟩], blk g4 35 [.string (bstr n), .bool s, .bool l, .bool f, .int .i64 fd, .int .i64 a, .int .i64 b, .int .i64 c]] V92) := Lib.hid (S91.out.gr hv93)
    clear S91
    clear hv93
    refine ⟨rfl, hK _ _ ?_⟩
    clear hK
    go_upto_region 8 with fail
    refine wpG_region_k (fun K hK => ?_)
    refine @wpG_p _ _ _ _ _ (some 31) (.slice A80 7 k81) _ _ rfl (by rfl) (fun _ => rfl) ?_
    simp only [n1, n3, n4]
    refine @wpG_p _ _ _ _ _ (some 32) (.int .i64 c) _ _ rfl (by rfl) (fun _ => rfl) ?_
    simp only [n1, n3, n4]
    refine @wpG_tk _ _ _ _ _ (some 33) (.string (bstr (Lib.itoa c))) _ _ rfl (.call (f := 46) (args := #[.int .i64 c]) (by rfl) (fun W => by go_simp) (fun W hg => itoas_any c W ⟨by omega, by omega⟩)) ?_
    simp only [n1, n3, n4]
    refine wpG_val (some 34) rfl (by rfl) (fun W95 hg96 => ⟨.slice (some ⟨W95.heap.size, 0, none⟩) 1 1, W95.alloc (.cells #[.string (bstr (Lib.itoa c))] 9), by (go_simp <;> rfl), ?_⟩)
    simp only [n1, n3, n4]
    obtain ⟨g97, U98, hg_, hu_, hS_⟩ := (S94.out.gr hg96).made [.string (bstr (Lib.itoa c))] 9
    rw [← hu_, ← hg_]
    have S99 : Hid (St w noB [blk g97 9 [.string (bstr (Lib.itoa c))], own (.slice A80 7 k81) 9 1 7 ([.string (bstr n), .string (bstr (Ma.kdn s l f)), .string ⟨#[102, 97, 100, 101]⟩, .string (bstr (Lib.itoa fd))] ++ [.string ⟨#[101, 109, 105, 116]⟩] ++ [.string (bstr (Lib.itoa a))] ++ [.string (bstr (Lib.itoa b))]), blk g74 9 [.string (bstr (Lib.itoa b))], blk g51 9 [.string (bstr (Lib.itoa a))], blk g28 9 [.string ⟨#[101, 109, 105, 116]⟩], blk g4 35 [.string (bstr n), .bool s, .bool l, .bool f, .int .i64 fd, .int .i64 a, .int .i64 b, .int .i64 c]] U98) := Lib.hid hS_
    clear S94
    clear hg_ hu_ hS_ hg96
    have S100 : Hid (St w noB [own (.slice A80 7 k81) 9 1 7 ([.string (bstr n), .string (bstr (Ma.kdn s l f)), .string ⟨#[102, 97, 100, 101]⟩, .string (bstr (Lib.itoa fd))] ++ [.string ⟨#[101, 109, 105, 116]⟩] ++ [.string (bstr (Lib.itoa a))] ++ [.string (bstr (Lib.itoa b))]), blk g97 9 [.string (bstr (Lib.itoa c))], blk g74 9 [.string (bstr (Lib.itoa b))], blk g51 9 [.string (bstr (Lib.itoa a))], blk g28 9 [.string ⟨#[101, 109, 105, 116]⟩], blk g4 35 [.string (bstr n), .bool s, .bool l, .bool f, .int .i64 fd, .int .i64 a, .int .i64 b, .int .i64 c]] U98) := Lib.hid (S99.out.front 1 rfl)
    clear S99
    refine wpG_appS (some 35) rfl rfl (.tmp 31) (.tmp 34) 68 68 rfl 9 1 16 Tryd.underlying68 (by kernel_rfl) (.slice A80 7 k81) 7 ([.string (bstr n), .string (bstr (Ma.kdn s l f)), .string ⟨#[102, 97, 100, 101]⟩, .string (bstr (Lib.itoa fd))] ++ [.string ⟨#[101, 109, 105, 116]⟩] ++ [.string (bstr (Lib.itoa a))] ++ [.string (bstr (Lib.itoa b))]) S100.out (.slice (some ⟨g97, 0, none⟩) 1 1) 1 [.string (bstr (Lib.itoa c))] (fun W hg => src_lies Tryd.underlying68 1 rfl (fun h => by cases h) (by intro u hu; simp at hu; rcases hu with rfl <;> rfl) ((S100.out.gr hg).liesBlk 1 rfl)) rfl rfl (by simp only [maxLen]; omega) (by omega) (fun v101 W102 hS_ => ?_)
    simp only [n1, n3, n4]
    obtain ⟨A103, k104, rfl, hle_, hcap_, _⟩ := own_shape (hS_.ownr 0 rfl)
    have S105 : Hid (St w noB [own (.slice A103 8 k104) 9 1 8 ([.string (bstr n), .string (bstr (Ma.kdn s l f)), .string ⟨#[102, 97, 100, 101]⟩, .string (bstr (Lib.itoa fd))] ++ [.string ⟨#[101, 109, 105, 116]⟩] ++ [.string (bstr (Lib.itoa a))] ++ [.string (bstr (Lib.itoa b))] ++ [.string (bstr (Lib.itoa c))]), blk g97 9 [.string (bstr (Lib.itoa c))], blk g74 9 [.string (bstr (Lib.itoa b))], blk g51 9 [.string (bstr (Lib.itoa a))], blk g28 9 [.string ⟨#[101, 109, 105, 116]⟩], blk g4 35 [.string (bstr n), .bool s, .bool l, .bool f, .int .i64 fd, .int .i64 a, .int .i64 b, .int .i64 c]] W102) := Lib.hid hS_
    clear S100
    clear hS_
    refine @wpG_p _ _ _ _ _ (some 5) (.slice A103 8 k104) _ _ rfl (by rfl) (fun _ => rfl) ?_
    simp only [n1, n3, n4]
    refine wpG_done (fun V106 hv107 => ?_)
    have S108 : Hid (St w noB [own (.slice A103 8 k104) 9 1 8 ([.string (bstr n), .string (bstr (Ma.kdn s l f)), .string ⟨#[102, 97, 100, 101]⟩, .string (bstr (Lib.itoa fd))] ++ [.string ⟨#[101, 109, 105, 116]⟩] ++ [.string (bstr (Lib.itoa a))] ++ [.string (bstr (Lib.itoa b))] ++ [.string (bstr (Lib.itoa c))]), blk g97 9 [.string (bstr (Lib.itoa c))], blk g74 9 [.string (bstr (Lib.itoa b))], blk g51 9 [.string (bstr (Lib.itoa a))], blk g28 9 [.string ⟨#[101, 109, 105, 116]⟩], blk g4 35 [.string (bstr n), .bool s, .bool l, .bool f, .int .i64 fd, .int .i64 a, .int .i64 b, .int .i64 c]] V106) := Lib.hid (S105.out.gr hv107)
    clear S105
    clear hv107
    refine ⟨rfl, hK _ _ ?_⟩
    clear hK
    go_upto_region 9 with fail
    refine wpG_region_k (fun K hK => ?_)
    refine @wpG_p _ _ _ _ _ (some 36) (.int .i64 3) _ _ rfl (by rfl) (fun W => by go_simp <;> rfl) ?_
    simp only [n1, n3, n4]
    refine @wpG_p _ _ _ _ _ (some 28) (.int .i64 3) _ _ rfl (by rfl) (fun _ => rfl) ?_
    simp only [n1, n3, n4]
    refine wpG_done (fun V109 hv110 => ?_)
    have S111 : Hid (St w noB [own (.slice A103 8 k104) 9 1 8 ([.string (bstr n), .string (bstr (Ma.kdn s l f)), .string ⟨#[102, 97, 100, 101]⟩, .string (bstr (Lib.itoa fd))] ++ [.string ⟨#[101, 109, 105, 116]⟩] ++ [.string (bstr (Lib.itoa a))] ++ [.string (bstr (Lib.itoa b))] ++ [.string (bstr (Lib.itoa c))]), blk g97 9 [.string (bstr (Lib.itoa c))], blk g74 9 [.string (bstr (Lib.itoa b))], blk g51 9 [.string (bstr (Lib.itoa a))], blk g28 9 [.string ⟨#[101, 109, 105, 116]⟩], blk g4 35 [.string (bstr n), .bool s, .bool l, .bool f, .int .i64 fd, .int .i64 a, .int .i64 b, .int .i64 c]] V109) := Lib.hid (S108.out.gr hv110)
    clear S108
    clear hv110
    refine ⟨rfl, hK _ _ ?_⟩
    clear hK
    go_wp2_with fail
    rw [rounds_succ]
    go_upto_region 6 with fail
    refine wpG_region_k (fun K hK => ?_)
    refine @wpG_p _ _ _ _ _ (some 29) (.bool false) _ _ rfl (by rfl) (fun W => by go_simp) ?_
    simp only [n1, n3, n4]
    refine wpG_done (fun V112 hv113 => ?_)
    have S114 : Hid (St w noB [own (.slice A103 8 k104) 9 1 8 ([.string (bstr n), .string (bstr (Ma.kdn s l f)), .string ⟨#[102, 97, 100, 101]⟩, .string (bstr (Lib.itoa fd))] ++ [.string ⟨#[101, 109, 105, 116]⟩] ++ [.string (bstr (Lib.itoa a))] ++ [.string (bstr (Lib.itoa b))] ++ [.string (bstr (Lib.itoa c))]), blk g97 9 [.string (bstr (Lib.itoa c))], blk g74 9 [.string (bstr (Lib.itoa b))], blk g51 9 [.string (bstr (Lib.itoa a))], blk g28 9 [.string ⟨#[101, 109, 105, 116]⟩], blk g4 35 [.string (bstr n), .bool s, .bool l, .bool f, .int .i64 fd, .int .i64 a, .int .i64 b, .int .i64 c]] V112) := Lib.hid (S111.out.gr hv113)
    clear S111
    clear hv113
    refine ⟨rfl, hK _ _ ?_⟩
    clear hK
    go_upto_region 10 with fail
    refine wpG_region_k (fun K hK => ?_)
    refine @wpG_p _ _ _ _ _ (some 37) (.slice A103 8 k104) _ _ rfl (by rfl) (fun _ => rfl) ?_
    simp only [n1, n3, n4]
    obtain ⟨hjc_, jg115, rfl, _⟩ := own_adr (S114.out.ownr 0 rfl) (by decide)
    obtain ⟨j116, hj_⟩ : ∃ q_, q_ = Lib.join [n, Ma.kdn s l f, [102, 97, 100, 101], Lib.itoa fd, [101, 109, 105, 116], Lib.itoa a, Lib.itoa b, Lib.itoa c] [32] := ⟨_, rfl⟩
    have hlj116 : j116.length ≤ 1000 := by rw [hj_, Ma.join8]; simp [Ma.wFade, Ma.wEmit]; omega
    have Hj116 := Lib.hid hj_
    clear hj_
    refine @wpG_tk _ _ _ _ _ (some 38) (.string (bstr j116)) _ _ rfl (.call (f := 48) (args := #[.slice (some ⟨jg115, 0, none⟩) 8 k104, .string ⟨#[32]⟩]) (by rfl) (fun W => by go_simp) (fun W hg => (Hj116.out ▸ join_any jg115 k104 [n, Ma.kdn s l f, [102, 97, 100, 101], Lib.itoa fd, [101, 109, 105, 116], Lib.itoa a, Lib.itoa b, Lib.itoa c] [32] W ((S114.out.gr hg).liesOwn 0 rfl) (by obtain ⟨_, _, e_, h_⟩ := own_adr ((S114.out.gr hg).ownr 0 rfl) (by decide); injection e_ with e_; injection e_ with e_ _ _; subst e_; exact h_) hjc_ (by simp) (by rw [← Hj116.out]; omega)))) ?_
    simp only [n1, n3, n4]
    refine @wpG_p _ _ _ _ _ (some 39) (.string (bstr (j116 ++ [10]))) _ _ rfl (by rfl) (fun W => op_str_add W j116 [10] (by first | omega | (simp; omega)) rfl rfl rfl Tryd.underlying9) ?_
    simp only [n1, n3, n4]
    refine @wpG_p _ _ _ _ _ (some 2) (.string (bstr (j116 ++ [10]))) _ _ rfl (by rfl) (fun _ => rfl) ?_
    simp only [n1, n3, n4]
    refine wpG_done (fun V117 hv118 => ?_)
    have S119 : Hid (St w noB [own (.slice (some ⟨jg115, 0, none⟩) 8 k104) 9 1 8 ([.string (bstr n), .string (bstr (Ma.kdn s l f)), .string ⟨#[102, 97, 100, 101]⟩, .string (bstr (Lib.itoa fd))] ++ [.string ⟨#[101, 109, 105, 116]⟩] ++ [.string (bstr (Lib.itoa a))] ++ [.string (bstr (Lib.itoa b))] ++ [.string (bstr (Lib.itoa c))]), blk g97 9 [.string (bstr (Lib.itoa c))], blk g74 9 [.string (bstr (Lib.itoa b))], blk g51 9 [.string (bstr (Lib.itoa a))], blk g28 9 [.string ⟨#[101, 109, 105, 116]⟩], blk g4 35 [.string (bstr n), .bool s, .bool l, .bool f, .int .i64 fd, .int .i64 a, .int .i64 b, .int .i64 c]] V117) := Lib.hid (S114.out.gr hv118)
    clear S114
    clear hv118
    refine ⟨rfl, hK _ _ ?_⟩
    clear hK
    go_wp2_with fail
    go_ret
    refine ⟨?_, S119.out.bel⟩
    show Ending.returned (.string (bstr (j116 ++ [10]))) = _
    (first | rfl | (obtain rfl := Hj116.out; have hkw := Ma.kdn_kw (m := (⟨n, s, l, f, fd, a, b, c⟩ : Ma.Mt)) HKS.out; simp only at hkw; rw [hkw]; rw [Ma.line_light (m := (⟨n, s, l, f, fd, a, b, c⟩ : Ma.Mt)) f25]; simp [Ma.join4, Ma.join8, Ma.wFade, Ma.wEmit]))
  | false =>
    have f120 := Lib.hid (of_decide_eq_true (bnf Hc24.out))
    go_upto_region 10 with fail
    refine wpG_region_k (fun K hK => ?_)
    refine @wpG_p _ _ _ _ _ (some 37) (.slice (some ⟨g15, 0, none⟩) 4 4) _ _ rfl (by rfl) (fun _ => rfl) ?_
    simp only [n1, n3, n4]
    obtain ⟨j121, hj_⟩ : ∃ q_, q_ = Lib.join [n, Ma.kdn s l f, [102, 97, 100, 101], Lib.itoa fd] [32] := ⟨_, rfl⟩
    have hlj121 : j121.length ≤ 1000 := by rw [hj_, Ma.join4]; simp [Ma.wFade, Ma.wEmit]; omega
    have Hj121 := Lib.hid hj_
    clear hj_
    refine @wpG_tk _ _ _ _ _ (some 38) (.string (bstr j121)) _ _ rfl (.call (f := 48) (args := #[.slice (some ⟨g15, 0, none⟩) 4 4, .string ⟨#[32]⟩]) (by rfl) (fun W => by go_simp) (fun W hg => (Hj121.out ▸ join_any g15 4 [n, Ma.kdn s l f, [102, 97, 100, 101], Lib.itoa fd] [32] W ((S23.out.gr hg).liesBlk 0 rfl) (blk_lt (S23.out.gr hg) 0 rfl) (by simp) (by simp) (by rw [← Hj121.out]; omega)))) ?_
    simp only [n1, n3, n4]
    refine @wpG_p _ _ _ _ _ (some 39) (.string (bstr (j121 ++ [10]))) _ _ rfl (by rfl) (fun W => op_str_add W j121 [10] (by first | omega | (simp; omega)) rfl rfl rfl Tryd.underlying9) ?_
    simp only [n1, n3, n4]
    refine @wpG_p _ _ _ _ _ (some 2) (.string (bstr (j121 ++ [10]))) _ _ rfl (by rfl) (fun _ => rfl) ?_
    simp only [n1, n3, n4]
    refine wpG_done (fun V122 hv123 => ?_)
    have S124 : Hid (St w noB [blk g15 9 [.string (bstr n), .string (bstr (Ma.kdn s l f)), .string ⟨#[102, 97, 100, 101]⟩, .string (bstr (Lib.itoa fd))], blk g4 35 [.string (bstr n), .bool s, .bool l, .bool f, .int .i64 fd, .int .i64 a, .int .i64 b, .int .i64 c]] V122) := Lib.hid (S23.out.gr hv123)
    clear S23
    clear hv123
    refine ⟨rfl, hK _ _ ?_⟩
    clear hK
    go_wp2_with fail
    go_ret
    refine ⟨?_, S124.out.bel⟩
    show Ending.returned (.string (bstr (j121 ++ [10]))) = _
    (first | rfl | (obtain rfl := Hj121.out; have e_f120 := f120.out; have hkw := Ma.kdn_kw (m := (⟨n, s, l, f, fd, a, b, c⟩ : Ma.Mt)) HKS.out; simp only at hkw; rw [hkw]; rw [Ma.line_dark (m := (⟨n, s, l, f, fd, a, b, c⟩ : Ma.Mt)) e_f120]; simp [Ma.join4, Ma.join8, Ma.wFade, Ma.wEmit]))
set_option maxRecDepth 1000000 in
set_option maxHeartbeats 4000000 in
theorem rline_any (n : List UInt8) (s l f : Bool) (fd a b c : Int) (w : World) (hv : Ma.vld (⟨n, s, l, f, fd, a, b, c⟩ : Ma.Mt) = true) :
    Calls Tryd.prog 36 #[.agg #[.string (bstr n), .bool s, .bool l, .bool f, .int .i64 fd, .int .i64 a, .int .i64 b, .int .i64 c]] w fun e w' => e = .returned (.string (bstr (Ma.line (⟨n, s, l, f, fd, a, b, c⟩ : Ma.Mt)))) ∧ Below w.heap.size w w' := by
  have hkl := Ma.kw_le (⟨n, s, l, f, fd, a, b, c⟩ : Ma.Mt)
  obtain ⟨hk_, ⟨ha0, ha1⟩, ⟨hb0, hb1⟩, ⟨hc0, hc1⟩, hn_, ⟨hf0, hf1⟩⟩ := Ma.vld_of hv
  simp only at hk_ ha0 ha1 hb0 hb1 hc0 hc1 hn_ hf0 hf1
  obtain ⟨hn0, hn1⟩ := Ma.name_le hn_
  have HKS := Lib.hid hk_
  clear hk_ hn_ hv
  have hifd := Ma.itoa_le (n := fd) (by omega) (by omega)
  have hia := Ma.itoa_le (n := a) (by omega) (by omega)
  have hib := Ma.itoa_le (n := b) (by omega) (by omega)
  have hic := Ma.itoa_le (n := c) (by omega) (by omega)
  have S1 : Hid (St w noB [] w) := Lib.hid (St.start w)
  go_enter Tryd.func36, Tryd.ntmps36
  go_upto_region 0 with fail
  refine wpG_region_k (fun K hK => ?_)
  refine wpG_val (some 1) rfl (by rfl) (fun W2 hg3 => ⟨.pointer (some ⟨W2.heap.size, 0, none⟩), W2.alloc (.cells #[.string (bstr n), .bool s, .bool l, .bool f, .int .i64 fd, .int .i64 a, .int .i64 b, .int .i64 c] 35), by (first | (go_simp; done) | (go_simp <;> rfl)), ?_⟩)
  simp only [n1, n3, n4]
  obtain ⟨g4, U5, hg_, hu_, hS_⟩ := (S1.out.gr hg3).made [.string (bstr n), .bool s, .bool l, .bool f, .int .i64 fd, .int .i64 a, .int .i64 b, .int .i64 c] 35
  rw [← hu_, ← hg_]
  have S6 : Hid (St w noB [blk g4 35 [.string (bstr n), .bool s, .bool l, .bool f, .int .i64 fd, .int .i64 a, .int .i64 b, .int .i64 c]] U5) := Lib.hid hS_
  clear S1
  clear hg_ hu_ hS_ hg3
  refine @wpG_p _ _ _ _ _ (some 2) (.string ⟨#[]⟩) _ _ rfl (by rfl) (fun _ => rfl) ?_
  simp only [n1, n3, n4]
  refine wpG_done (fun V7 hv8 => ?_)
  have S9 : Hid (St w noB [blk g4 35 [.string (bstr n), .bool s, .bool l, .bool f, .int .i64 fd, .int .i64 a, .int .i64 b, .int .i64 c]] V7) := Lib.hid (S6.out.gr hv8)
  clear S6
  clear hv8
  refine ⟨rfl, hK _ _ ?_⟩
  clear hK
  go_upto_region 1 with fail
  refine wpK_region_k (by kernel_rfl) (fun K hK => ?_)
  refine wpK_ta (i := 0) (some 4) (v := .pointer (some ⟨g4, 0, none⟩)) rfl rfl (by kernel_rfl) (fun _ _ _ h => onN_panic h) (Or.inl ⟨by rfl, fun W => by go_simp⟩) ?_
  simp only [n1, n3, n4]
  refine wpK_ta (i := 7) (some 11) (v := .pointer (some ⟨g4, 4, none⟩)) rfl rfl (by kernel_rfl) (fun _ _ _ h => onN_panic h) (Or.inl ⟨by rfl, fun W => by go_simp⟩) ?_
  simp only [n1, n3, n4]
  refine wpK_tk (i := 1) (some 5) (v := .string (bstr n)) rfl rfl (by kernel_rfl) (fun _ _ _ h => onN_panic h) (.val (by rfl) (fun W hg => by have c := (S9.out.gr (Gr.un hg)).cell 0 rfl 0 rfl; go_simp)) ?_
  simp only [n1, n3, n4]
  refine wpK_ta (i := 2) (some 6) (v := .string (bstr (n ++ [32]))) rfl rfl (by kernel_rfl) (fun _ _ _ h => onN_panic h) (Or.inl ⟨by rfl, fun W => by exact op_str_add W n [32] (by first | omega | (simp; omega)) rfl rfl rfl Tryd.underlying9⟩) ?_
  simp only [n1, n3, n4]
  refine wpK_tk (i := 3) (some 7) (v := .agg #[.string (bstr n), .bool s, .bool l, .bool f, .int .i64 fd, .int .i64 a, .int .i64 b, .int .i64 c]) rfl rfl (by kernel_rfl) (fun _ _ _ h => onN_panic h) (.load_mid (by rfl) 35 (.tmp 1) rfl g4 0 rfl [.string (bstr n), .bool s, .bool l, .bool f, .int .i64 fd, .int .i64 a, .int .i64 b, .int .i64 c] _ (fun W hg => (S9.out.gr (Gr.un hg)).range 0 rfl 0 8 rfl) Tryd.underlying35 rfl (by kernel_rfl)) ?_
  simp only [n1, n3, n4]
  refine wpK_tk (i := 4) (some 8) (v := .string (bstr (Ma.kw (⟨n, s, l, f, fd, a, b, c⟩ : Ma.Mt)))) rfl rfl (by kernel_rfl) (fun _ _ _ h => onN_panic h) (.call (f := 49) (args := #[.agg #[.string (bstr n), .bool s, .bool l, .bool f, .int .i64 fd, .int .i64 a, .int .i64 b, .int .i64 c]]) (by rfl) (fun W => by go_simp) (fun W hg => rkind_any n s l f fd a b c W)) ?_
  simp only [n1, n3, n4]
  refine wpK_ta (i := 5) (some 9) (v := .string (bstr ((n ++ [32]) ++ (Ma.kw (⟨n, s, l, f, fd, a, b, c⟩ : Ma.Mt))))) rfl rfl (by kernel_rfl) (fun _ _ _ h => onN_panic h) (Or.inl ⟨by rfl, fun W => by exact op_str_add W (n ++ [32]) (Ma.kw (⟨n, s, l, f, fd, a, b, c⟩ : Ma.Mt)) (by first | omega | (simp; omega)) rfl rfl rfl Tryd.underlying9⟩) ?_
  simp only [n1, n3, n4]
  refine wpK_ta (i := 6) (some 10) (v := .string (bstr (((n ++ [32]) ++ (Ma.kw (⟨n, s, l, f, fd, a, b, c⟩ : Ma.Mt))) ++ [32, 102, 97, 100, 101, 32]))) rfl rfl (by kernel_rfl) (fun _ _ _ h => onN_panic h) (Or.inl ⟨by rfl, fun W => by exact op_str_add W ((n ++ [32]) ++ (Ma.kw (⟨n, s, l, f, fd, a, b, c⟩ : Ma.Mt))) [32, 102, 97, 100, 101, 32] (by first | omega | (simp; omega)) rfl rfl rfl Tryd.underlying9⟩) ?_
  simp only [n1, n3, n4]
  refine wpK_tk (i := 8) (some 12) (v := .int .i64 fd) rfl rfl (by kernel_rfl) (fun _ _ _ h => onN_panic h) (.val (by rfl) (fun W hg => by have c := (S9.out.gr (Gr.un hg)).cell 0 rfl 4 rfl; go_simp)) ?_
  simp only [n1, n3, n4]
  refine wpK_tk (i := 9) (some 13) (v := .string (bstr (Lib.itoa fd))) rfl rfl (by kernel_rfl) (fun _ _ _ h => onN_panic h) (.call (f := 46) (args := #[.int .i64 fd]) (by rfl) (fun W => by go_simp) (fun W hg => itoas_any fd W ⟨by omega, by omega⟩)) ?_
  simp only [n1, n3, n4]
  refine wpK_ta (i := 10) (some 14) (v := .string (bstr ((((n ++ [32]) ++ (Ma.kw (⟨n, s, l, f, fd, a, b, c⟩ : Ma.Mt))) ++ [32, 102, 97, 100, 101, 32]) ++ (Lib.itoa fd)))) rfl rfl (by kernel_rfl) (fun _ _ _ h => onN_panic h) (Or.inl ⟨by rfl, fun W => by exact op_str_add W (((n ++ [32]) ++ (Ma.kw (⟨n, s, l, f, fd, a, b, c⟩ : Ma.Mt))) ++ [32, 102, 97, 100, 101, 32]) (Lib.itoa fd) (by first | omega | (simp; omega)) rfl rfl rfl Tryd.underlying9⟩) ?_
  simp only [n1, n3, n4]
  refine wpK_ta (i := 11) (some 3) (v := .string (bstr ((((n ++ [32]) ++ (Ma.kw (⟨n, s, l, f, fd, a, b, c⟩ : Ma.Mt))) ++ [32, 102, 97, 100, 101, 32]) ++ (Lib.itoa fd)))) rfl rfl (by kernel_rfl) (fun _ _ _ h => onN_panic h) (Or.inl ⟨rfl, fun _ => rfl⟩) ?_
  simp only [n1, n3, n4]
  refine wpK_done (by kernel_rfl) (fun V10 hv11 => ?_) _
  have S12 : Hid (St w noB [blk g4 35 [.string (bstr n), .bool s, .bool l, .bool f, .int .i64 fd, .int .i64 a, .int .i64 b, .int .i64 c]] V10) := Lib.hid (S9.out.gr (Gr.un hv11))
  clear S9
  clear hv11
  refine ⟨rfl, hK _ _ ?_⟩
  clear hK
  go_upto_region 2 with fail
  refine wpG_region_k (fun K hK => ?_)
  refine @wpG_p _ _ _ _ _ (some 15) (.pointer (some ⟨g4, 5, none⟩)) _ _ rfl (by rfl) (fun W => by go_simp) ?_
  simp only [n1, n3, n4]
  refine @wpG_tk _ _ _ _ _ (some 16) (.agg #[.int .i64 a, .int .i64 b, .int .i64 c]) _ _ rfl (.load_mid (by rfl) 33 (.tmp 15) rfl g4 5 rfl [.int .i64 a, .int .i64 b, .int .i64 c] _ (fun W hg => (S12.out.gr hg).range 0 rfl 5 3 rfl) Tryd.underlying33 rfl (by kernel_rfl)) ?_
  simp only [n1, n3, n4]
  refine @wpG_p _ _ _ _ _ (some 17) (.agg #[.int .i64 0, .int .i64 0, .int .i64 0]) _ _ rfl (by rfl) (fun W => by go_simp) ?_
  simp only [n1, n3, n4]
  refine @wpG_p _ _ _ _ _ (some 18) (.bool (decide (¬ (a = 0 ∧ b = 0 ∧ c = 0)))) _ _ rfl (by rfl) (fun W => op_i3_neq W a b c 0 0 0 rfl rfl rfl) ?_
  simp only [n1, n3, n4]
  refine wpG_done (fun V13 hv14 => ?_)
  have S15 : Hid (St w noB [blk g4 35 [.string (bstr n), .bool s, .bool l, .bool f, .int .i64 fd, .int .i64 a, .int .i64 b, .int .i64 c]] V13) := Lib.hid (S12.out.gr hv14)
  clear S12
  clear hv14
  refine ⟨rfl, hK _ _ ?_⟩
  clear hK
  obtain ⟨c16, hc16⟩ : ∃ q_, q_ = (decide (¬ (a = 0 ∧ b = 0 ∧ c = 0))) := ⟨_, rfl⟩
  rw [← hc16]
  have Hc16 := Lib.hid hc16
  clear hc16
  cases c16 with
  | true =>
    have f17 := Lib.hid (of_decide_eq_true Hc16.out.symm)
    go_upto_region 3 with fail
    refine wpK_region_k (by kernel_rfl) (fun K hK => ?_)
    refine wpK_ta (i := 0) (some 19) (v := .string (bstr ((((n ++ [32]) ++ (Ma.kw (⟨n, s, l, f, fd, a, b, c⟩ : Ma.Mt))) ++ [32, 102, 97, 100, 101, 32]) ++ (Lib.itoa fd)))) rfl rfl (by kernel_rfl) (fun _ _ _ h => onN_panic h) (Or.inl ⟨rfl, fun _ => rfl⟩) ?_
    simp only [n1, n3, n4]
    refine wpK_ta (i := 1) (some 20) (v := .string (bstr (((((n ++ [32]) ++ (Ma.kw (⟨n, s, l, f, fd, a, b, c⟩ : Ma.Mt))) ++ [32, 102, 97, 100, 101, 32]) ++ (Lib.itoa fd)) ++ [32, 101, 109, 105, 116, 32]))) rfl rfl (by kernel_rfl) (fun _ _ _ h => onN_panic h) (Or.inl ⟨by rfl, fun W => by exact op_str_add W ((((n ++ [32]) ++ (Ma.kw (⟨n, s, l, f, fd, a, b, c⟩ : Ma.Mt))) ++ [32, 102, 97, 100, 101, 32]) ++ (Lib.itoa fd)) [32, 101, 109, 105, 116, 32] (by first | omega | (simp; omega)) rfl rfl rfl Tryd.underlying9⟩) ?_
    simp only [n1, n3, n4]
    refine wpK_ta (i := 2) (some 21) (v := .pointer (some ⟨g4, 5, none⟩)) rfl rfl (by kernel_rfl) (fun _ _ _ h => onN_panic h) (Or.inl ⟨by rfl, fun W => by go_simp⟩) ?_
    simp only [n1, n3, n4]
    refine wpK_ta (i := 3) (some 22) (v := .pointer (some ⟨g4, 5, none⟩)) rfl rfl (by kernel_rfl) (fun _ _ _ h => onN_panic h) (Or.inl ⟨by rfl, fun W => by (go_simp <;> first | rfl | omega)⟩) ?_
    simp only [n1, n3, n4]
    refine wpK_ta (i := 8) (some 27) (v := .pointer (some ⟨g4, 5, none⟩)) rfl rfl (by kernel_rfl) (fun _ _ _ h => onN_panic h) (Or.inl ⟨by rfl, fun W => by go_simp⟩) ?_
    simp only [n1, n3, n4]
    refine wpK_ta (i := 9) (some 28) (v := .pointer (some ⟨g4, 6, none⟩)) rfl rfl (by kernel_rfl) (fun _ _ _ h => onN_panic h) (Or.inl ⟨by rfl, fun W => by (go_simp <;> first | rfl | omega)⟩) ?_
    simp only [n1, n3, n4]
    refine wpK_ta (i := 14) (some 33) (v := .pointer (some ⟨g4, 5, none⟩)) rfl rfl (by kernel_rfl) (fun _ _ _ h => onN_panic h) (Or.inl ⟨by rfl, fun W => by go_simp⟩) ?_
    simp only [n1, n3, n4]
    refine wpK_ta (i := 15) (some 34) (v := .pointer (some ⟨g4, 7, none⟩)) rfl rfl (by kernel_rfl) (fun _ _ _ h => onN_panic h) (Or.inl ⟨by rfl, fun W => by (go_simp <;> first | rfl | omega)⟩) ?_
    simp only [n1, n3, n4]
    refine wpK_tk (i := 4) (some 23) (v := .int .i64 a) rfl rfl (by kernel_rfl) (fun _ _ _ h => onN_panic h) (.val (by rfl) (fun W hg => by have c := (S15.out.gr (Gr.un hg)).cell 0 rfl 5 rfl; go_simp)) ?_
    simp only [n1, n3, n4]
    refine wpK_tk (i := 5) (some 24) (v := .string (bstr (Lib.itoa a))) rfl rfl (by kernel_rfl) (fun _ _ _ h => onN_panic h) (.call (f := 46) (args := #[.int .i64 a]) (by rfl) (fun W => by go_simp) (fun W hg => itoas_any a W ⟨by omega, by omega⟩)) ?_
    simp only [n1, n3, n4]
    refine wpK_ta (i := 6) (some 25) (v := .string (bstr ((((((n ++ [32]) ++ (Ma.kw (⟨n, s, l, f, fd, a, b, c⟩ : Ma.Mt))) ++ [32, 102, 97, 100, 101, 32]) ++ (Lib.itoa fd)) ++ [32, 101, 109, 105, 116, 32]) ++ (Lib.itoa a)))) rfl rfl (by kernel_rfl) (fun _ _ _ h => onN_panic h) (Or.inl ⟨by rfl, fun W => by exact op_str_add W (((((n ++ [32]) ++ (Ma.kw (⟨n, s, l, f, fd, a, b, c⟩ : Ma.Mt))) ++ [32, 102, 97, 100, 101, 32]) ++ (Lib.itoa fd)) ++ [32, 101, 109, 105, 116, 32]) (Lib.itoa a) (by first | omega | (simp; omega)) rfl rfl rfl Tryd.underlying9⟩) ?_
    simp only [n1, n3, n4]
    refine wpK_ta (i := 7) (some 26) (v := .string (bstr (((((((n ++ [32]) ++ (Ma.kw (⟨n, s, l, f, fd, a, b, c⟩ : Ma.Mt))) ++ [32, 102, 97, 100, 101, 32]) ++ (Lib.itoa fd)) ++ [32, 101, 109, 105, 116, 32]) ++ (Lib.itoa a)) ++ [32]))) rfl rfl (by kernel_rfl) (fun _ _ _ h => onN_panic h) (Or.inl ⟨by rfl, fun W => by exact op_str_add W ((((((n ++ [32]) ++ (Ma.kw (⟨n, s, l, f, fd, a, b, c⟩ : Ma.Mt))) ++ [32, 102, 97, 100, 101, 32]) ++ (Lib.itoa fd)) ++ [32, 101, 109, 105, 116, 32]) ++ (Lib.itoa a)) [32] (by first | omega | (simp; omega)) rfl rfl rfl Tryd.underlying9⟩) ?_
    simp only [n1, n3, n4]
    refine wpK_tk (i := 10) (some 29) (v := .int .i64 b) rfl rfl (by kernel_rfl) (fun _ _ _ h => onN_panic h) (.val (by rfl) (fun W hg => by have c := (S15.out.gr (Gr.un hg)).cell 0 rfl 6 rfl; go_simp)) ?_
    simp only [n1, n3, n4]
    refine wpK_tk (i := 11) (some 30) (v := .string (bstr (Lib.itoa b))) rfl rfl (by kernel_rfl) (fun _ _ _ h => onN_panic h) (.call (f := 46) (args := #[.int .i64 b]) (by rfl) (fun W => by go_simp) (fun W hg => itoas_any b W ⟨by omega, by omega⟩)) ?_
    simp only [n1, n3, n4]
    refine wpK_ta (i := 12) (some 31) (v := .string (bstr ((((((((n ++ [32]) ++ (Ma.kw (⟨n, s, l, f, fd, a, b, c⟩ : Ma.Mt))) ++ [32, 102, 97, 100, 101, 32]) ++ (Lib.itoa fd)) ++ [32, 101, 109, 105, 116, 32]) ++ (Lib.itoa a)) ++ [32]) ++ (Lib.itoa b)))) rfl rfl (by kernel_rfl) (fun _ _ _ h => onN_panic h) (Or.inl ⟨by rfl, fun W => by exact op_str_add W (((((((n ++ [32]) ++ (Ma.kw (⟨n, s, l, f, fd, a, b, c⟩ : Ma.Mt))) ++ [32, 102, 97, 100, 101, 32]) ++ (Lib.itoa fd)) ++ [32, 101, 109, 105, 116, 32]) ++ (Lib.itoa a)) ++ [32]) (Lib.itoa b) (by first | omega | (simp; omega)) rfl rfl rfl Tryd.underlying9⟩) ?_
    simp only [n1, n3, n4]
    refine wpK_ta (i := 13) (some 32) (v := .string (bstr (((((((((n ++ [32]) ++ (Ma.kw (⟨n, s, l, f, fd, a, b, c⟩ : Ma.Mt))) ++ [32, 102, 97, 100, 101, 32]) ++ (Lib.itoa fd)) ++ [32, 101, 109, 105, 116, 32]) ++ (Lib.itoa a)) ++ [32]) ++ (Lib.itoa b)) ++ [32]))) rfl rfl (by kernel_rfl) (fun _ _ _ h => onN_panic h) (Or.inl ⟨by rfl, fun W => by exact op_str_add W ((((((((n ++ [32]) ++ (Ma.kw (⟨n, s, l, f, fd, a, b, c⟩ : Ma.Mt))) ++ [32, 102, 97, 100, 101, 32]) ++ (Lib.itoa fd)) ++ [32, 101, 109, 105, 116, 32]) ++ (Lib.itoa a)) ++ [32]) ++ (Lib.itoa b)) [32] (by first | omega | (simp; omega)) rfl rfl rfl Tryd.underlying9⟩) ?_
    simp only [n1, n3, n4]
    refine wpK_tk (i := 16) (some 35) (v := .int .i64 c) rfl rfl (by kernel_rfl) (fun _ _ _ h => onN_panic h) (.val (by rfl) (fun W hg => by have c := (S15.out.gr (Gr.un hg)).cell 0 rfl 7 rfl; go_simp)) ?_
    simp only [n1, n3, n4]
    refine wpK_tk (i := 17) (some 36) (v := .string (bstr (Lib.itoa c))) rfl rfl (by kernel_rfl) (fun _ _ _ h => onN_panic h) (.call (f := 46) (args := #[.int .i64 c]) (by rfl) (fun W => by go_simp) (fun W hg => itoas_any c W ⟨by omega, by omega⟩)) ?_
    simp only [n1, n3, n4]
    refine wpK_ta (i := 18) (some 37) (v := .string (bstr ((((((((((n ++ [32]) ++ (Ma.kw (⟨n, s, l, f, fd, a, b, c⟩ : Ma.Mt))) ++ [32, 102, 97, 100, 101, 32]) ++ (Lib.itoa fd)) ++ [32, 101, 109, 105, 116, 32]) ++ (Lib.itoa a)) ++ [32]) ++ (Lib.itoa b)) ++ [32]) ++ (Lib.itoa c)))) rfl rfl (by kernel_rfl) (fun _ _ _ h => onN_panic h) (Or.inl ⟨by rfl, fun W => by exact op_str_add W (((((((((n ++ [32]) ++ (Ma.kw (⟨n, s, l, f, fd, a, b, c⟩ : Ma.Mt))) ++ [32, 102, 97, 100, 101, 32]) ++ (Lib.itoa fd)) ++ [32, 101, 109, 105, 116, 32]) ++ (Lib.itoa a)) ++ [32]) ++ (Lib.itoa b)) ++ [32]) (Lib.itoa c) (by first | omega | (simp; omega)) rfl rfl rfl Tryd.underlying9⟩) ?_
    simp only [n1, n3, n4]
    refine wpK_ta (i := 19) (some 3) (v := .string (bstr ((((((((((n ++ [32]) ++ (Ma.kw (⟨n, s, l, f, fd, a, b, c⟩ : Ma.Mt))) ++ [32, 102, 97, 100, 101, 32]) ++ (Lib.itoa fd)) ++ [32, 101, 109, 105, 116, 32]) ++ (Lib.itoa a)) ++ [32]) ++ (Lib.itoa b)) ++ [32]) ++ (Lib.itoa c)))) rfl rfl (by kernel_rfl) (fun _ _ _ h => onN_panic h) (Or.inl ⟨rfl, fun _ => rfl⟩) ?_
    simp only [n1, n3, n4]
    refine wpK_done (by kernel_rfl) (fun V18 hv19 => ?_) _
    have S20 : Hid (St w noB [blk g4 35 [.string (bstr n), .bool s, .bool l, .bool f, .int .i64 fd, .int .i64 a, .int .i64 b, .int .i64 c]] V18) := Lib.hid (S15.out.gr (Gr.un hv19))
    clear S15
    clear hv19
    refine ⟨rfl, hK _ _ ?_⟩
    clear hK
    go_upto_region 4 with fail
    refine wpG_region_k (fun K hK => ?_)
    refine @wpG_p _ _ _ _ _ (some 38) (.string (bstr ((((((((((n ++ [32]) ++ (Ma.kw (⟨n, s, l, f, fd, a, b, c⟩ : Ma.Mt))) ++ [32, 102, 97, 100, 101, 32]) ++ (Lib.itoa fd)) ++ [32, 101, 109, 105, 116, 32]) ++ (Lib.itoa a)) ++ [32]) ++ (Lib.itoa b)) ++ [32]) ++ (Lib.itoa c)))) _ _ rfl (by rfl) (fun _ => rfl) ?_
    simp only [n1, n3, n4]
    refine @wpG_p _ _ _ _ _ (some 2) (.string (bstr ((((((((((n ++ [32]) ++ (Ma.kw (⟨n, s, l, f, fd, a, b, c⟩ : Ma.Mt))) ++ [32, 102, 97, 100, 101, 32]) ++ (Lib.itoa fd)) ++ [32, 101, 109, 105, 116, 32]) ++ (Lib.itoa a)) ++ [32]) ++ (Lib.itoa b)) ++ [32]) ++ (Lib.itoa c)))) _ _ rfl (by rfl) (fun _ => rfl) ?_
    simp only [n1, n3, n4]
    refine wpG_done (fun V21 hv22 => ?_)
    have S23 : Hid (St w noB [blk g4 35 [.string (bstr n), .bool s, .bool l, .bool f, .int .i64 fd, .int .i64 a, .int .i64 b, .int .i64 c]] V21) := Lib.hid (S20.out.gr hv22)
    clear S20
    clear hv22
    refine ⟨rfl, hK _ _ ?_⟩
    clear hK
    go_wp2_with fail
    go_ret
    refine ⟨?_, S23.out.bel⟩
    show Ending.returned (.string (bstr ((((((((((n ++ [32]) ++ (Ma.kw (⟨n, s, l, f, fd, a, b, c⟩ : Ma.Mt))) ++ [32, 102, 97, 100, 101, 32]) ++ (Lib.itoa fd)) ++ [32, 101, 109, 105, 116, 32]) ++ (Lib.itoa a)) ++ [32]) ++ (Lib.itoa b)) ++ [32]) ++ (Lib.itoa c)))) = _
    (first | rfl | (have e_f17 := f17.out; rw [Ma.line_light (m := (⟨n, s, l, f, fd, a, b, c⟩ : Ma.Mt)) e_f17]; simp [Ma.wFade, Ma.wEmit]))
  | false =>
    have f24 := of_decide_eq_false Hc16.out.symm
    go_upto_region 4 with fail
    refine wpG_region_k (fun K hK => ?_)
    refine @wpG_p _ _ _ _ _ (some 38) (.string (bstr ((((n ++ [32]) ++ (Ma.kw (⟨n, s, l, f, fd, a, b, c⟩ : Ma.Mt))) ++ [32, 102, 97, 100, 101, 32]) ++ (Lib.itoa fd)))) _ _ rfl (by rfl) (fun _ => rfl) ?_
    simp only [n1, n3, n4]
    refine @wpG_p _ _ _ _ _ (some 2) (.string (bstr ((((n ++ [32]) ++ (Ma.kw (⟨n, s, l, f, fd, a, b, c⟩ : Ma.Mt))) ++ [32, 102, 97, 100, 101, 32]) ++ (Lib.itoa fd)))) _ _ rfl (by rfl) (fun _ => rfl) ?_
    simp only [n1, n3, n4]
    refine wpG_done (fun V25 hv26 => ?_)
    have S27 : Hid (St w noB [blk g4 35 [.string (bstr n), .bool s, .bool l, .bool f, .int .i64 fd, .int .i64 a, .int .i64 b, .int .i64 c]] V25) := Lib.hid (S15.out.gr hv26)
    clear S15
    clear hv26
    refine ⟨rfl, hK _ _ ?_⟩
    clear hK
    go_wp2_with fail
    go_ret
    refine ⟨?_, S27.out.bel⟩
    show Ending.returned (.string (bstr ((((n ++ [32]) ++ (Ma.kw (⟨n, s, l, f, fd, a, b, c⟩ : Ma.Mt))) ++ [32, 102, 97, 100, 101, 32]) ++ (Lib.itoa fd)))) = _
    (first | rfl | (rw [Ma.line_dark (m := (⟨n, s, l, f, fd, a, b, c⟩ : Ma.Mt)) (Decidable.not_not.1 f24)]; simp [Ma.wFade, Ma.wEmit]))

end Go.Proofs.YtpjjddjoegnipaaDoor
