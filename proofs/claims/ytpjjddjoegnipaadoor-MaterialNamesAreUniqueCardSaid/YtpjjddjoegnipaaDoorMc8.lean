/-
  Contracts: cutting, words, numbers, a line.
-/
import Derived.Test.YtpjjddjoegnipaaDoorMc3
import Derived.Test.YtpjjddjoegnipaaDoorMae
import Derived.Test.YtpjjddjoegnipaaDoorMa3
import Derived.Handy
namespace Go.Proofs.YtpjjddjoegnipaaDoor
open Go Go.RowKit
set_option linter.unusedVariables false
set_option linter.unusedSimpArgs false
set_option maxRecDepth 1000000 in
set_option maxHeartbeats 4000000 in
theorem scut_any (x : List UInt8) (c : UInt8) (w : World) (hx : x.length ≤ 4611686018427387904) :
    Calls Tryd.prog 50 #[.string (bstr x), .string (bstr [c])] w fun e w' => e = .returned (.tuple #[.string (bstr ((Ma.cut c x).1)), .string (bstr ((Ma.cut c x).2.1)), .bool ((Ma.cut c x).2.2)]) ∧ Below w.heap.size w w' := by
  obtain ⟨i, hi⟩ : ∃ i, i = Lib.indexByte x c := ⟨_, rfl⟩
  have hi2 : i < (x.length : Int) := by rcases Ma.idx_cut c x with ⟨h1, _⟩ | ⟨k, hk, h1, _⟩ <;> omega
  have HI := Lib.hid hi
  clear hi
  have S1 : Hid (St w noB [] w) := Lib.hid (St.start w)
  go_enter Tryd.func50, Tryd.ntmps50
  go_upto_region 0 with fail
  refine wpG_region_k (fun K hK => ?_)
  refine @wpG_p _ _ _ _ _ (some 4) (.string ⟨#[]⟩) _ _ rfl (by rfl) (fun _ => rfl) ?_
  simp only [n1, n3, n4]
  refine @wpG_p _ _ _ _ _ (some 5) (.string ⟨#[]⟩) _ _ rfl (by rfl) (fun _ => rfl) ?_
  simp only [n1, n3, n4]
  refine @wpG_p _ _ _ _ _ (some 6) (.bool false) _ _ rfl (by rfl) (fun _ => rfl) ?_
  simp only [n1, n3, n4]
  refine wpG_done (fun V2 hv3 => ?_)
  have S4 : Hid (St w noB [] V2) := Lib.hid (S1.out.gr hv3)
  clear S1
  clear hv3
  refine ⟨rfl, hK _ _ ?_⟩
  clear hK
  go_upto_region 1 with fail
  refine wpG_region_k (fun K hK => ?_)
  refine @wpG_p _ _ _ _ _ (some 8) (.string (bstr x)) _ _ rfl (by rfl) (fun _ => rfl) ?_
  simp only [n1, n3, n4]
  refine @wpG_p _ _ _ _ _ (some 9) (.string (bstr [c])) _ _ rfl (by rfl) (fun _ => rfl) ?_
  simp only [n1, n3, n4]
  refine @wpG_tk _ _ _ _ _ (some 10) (.int .i64 i) _ _ rfl (.call (f := 62) (args := #[.string (bstr x), .string (bstr [c])]) (by rfl) (fun W => by go_simp) (fun W hg => (HI.out ▸ idx_any x c W))) ?_
  simp only [n1, n3, n4]
  refine @wpG_p _ _ _ _ _ (some 7) (.int .i64 i) _ _ rfl (by rfl) (fun _ => rfl) ?_
  simp only [n1, n3, n4]
  refine wpG_done (fun V5 hv6 => ?_)
  have S7 : Hid (St w noB [] V5) := Lib.hid (S4.out.gr hv6)
  clear S4
  clear hv6
  refine ⟨rfl, hK _ _ ?_⟩
  clear hK
  go_upto_region 2 with fail
  refine wpG_region_k (fun K hK => ?_)
  refine @wpG_p _ _ _ _ _ (some 11) (.int .i64 i) _ _ rfl (by rfl) (fun _ => rfl) ?_
  simp only [n1, n3, n4]
  refine @wpG_p _ _ _ _ _ (some 12) (.bool (decide (i ≥ 0))) _ _ rfl (by rfl) (fun W => op_int_geq W i 0 rfl rfl rfl Tryd.underlying3) ?_
  simp only [n1, n3, n4]
  refine wpG_done (fun V8 hv9 => ?_)
  have S10 : Hid (St w noB [] V8) := Lib.hid (S7.out.gr hv9)
  clear S7
  clear hv9
  refine ⟨rfl, hK _ _ ?_⟩
  clear hK
  obtain ⟨c11, hc11⟩ : ∃ q_, q_ = (decide (i ≥ 0)) := ⟨_, rfl⟩
  rw [← hc11]
  have Hc11 := Lib.hid hc11
  clear hc11
  cases c11 with
  | true =>
    have f12 := of_decide_eq_true Hc11.out.symm
    go_upto_region 3 with fail
    refine wpK_region_k (by kernel_rfl) (fun K hK => ?_)
    refine wpK_ta (i := 0) (some 13) (v := .string (bstr x)) rfl rfl (by kernel_rfl) (fun _ _ _ h => onN_panic h) (Or.inl ⟨rfl, fun _ => rfl⟩) ?_
    simp only [n1, n3, n4]
    refine wpK_ta (i := 1) (some 14) (v := .int .i64 i) rfl rfl (by kernel_rfl) (fun _ _ _ h => onN_panic h) (Or.inl ⟨rfl, fun _ => rfl⟩) ?_
    simp only [n1, n3, n4]
    obtain ⟨q13, rfl⟩ : ∃ q_ : Nat, i = (q_ : Int) := ⟨i.toNat, by omega⟩
    refine wpK_ta (i := 2) (some 15) (v := .string (bstr (x.take q13))) rfl rfl (by kernel_rfl) (fun _ _ _ h => onN_panic h) (Or.inl ⟨by rfl, fun W => by exact op_str_upto W x q13 (by omega) rfl rfl rfl Tryd.underlying9⟩) ?_
    simp only [n1, n3, n4]
    refine wpK_ta (i := 3) (some 16) (v := .string (bstr x)) rfl rfl (by kernel_rfl) (fun _ _ _ h => onN_panic h) (Or.inl ⟨rfl, fun _ => rfl⟩) ?_
    simp only [n1, n3, n4]
    refine wpK_ta (i := 4) (some 17) (v := .int .i64 (q13 : Int)) rfl rfl (by kernel_rfl) (fun _ _ _ h => onN_panic h) (Or.inl ⟨rfl, fun _ => rfl⟩) ?_
    simp only [n1, n3, n4]
    refine wpK_ta (i := 5) (some 18) (v := .string (bstr [c])) rfl rfl (by kernel_rfl) (fun _ _ _ h => onN_panic h) (Or.inl ⟨rfl, fun _ => rfl⟩) ?_
    simp only [n1, n3, n4]
    refine wpK_ta (i := 6) (some 19) (v := .int .i64 1) rfl rfl (by kernel_rfl) (fun _ _ _ h => onN_panic h) (Or.inl ⟨by rfl, fun W => by exact op_str_len W [c] rfl rfl Tryd.underlying9⟩) ?_
    simp only [n1, n3, n4]
    refine wpK_ta (i := 7) (some 20) (v := .int .i64 ((q13 : Int) + 1)) rfl rfl (by kernel_rfl) (fun _ _ _ h => onN_panic h) (Or.inl ⟨by rfl, fun W => by exact op_i_add W (q13 : Int) 1 (by omega) rfl rfl rfl Tryd.underlying3⟩) ?_
    simp only [n1, n3, n4]
    refine wpK_ta (i := 8) (some 21) (v := .string (bstr (x.drop (q13 + 1)))) rfl rfl (by kernel_rfl) (fun _ _ _ h => onN_panic h) (Or.inl ⟨by rfl, fun W => by exact op_str_from W x (q13 + 1) (by omega) rfl rfl rfl Tryd.underlying9⟩) ?_
    simp only [n1, n3, n4]
    refine wpK_ta (i := 9) (some 4) (v := .string (bstr (x.take q13))) rfl rfl (by kernel_rfl) (fun _ _ _ h => onN_panic h) (Or.inl ⟨rfl, fun _ => rfl⟩) ?_
    simp only [n1, n3, n4]
    refine wpK_ta (i := 10) (some 5) (v := .string (bstr (x.drop (q13 + 1)))) rfl rfl (by kernel_rfl) (fun _ _ _ h => onN_panic h) (Or.inl ⟨rfl, fun _ => rfl⟩) ?_
    simp only [n1, n3, n4]
    refine wpK_ta (i := 11) (some 6) (v := .bool true) rfl rfl (by kernel_rfl) (fun _ _ _ h => onN_panic h) (Or.inl ⟨rfl, fun _ => rfl⟩) ?_
    simp only [n1, n3, n4]
    refine wpK_done (by kernel_rfl) (fun V14 hv15 => ?_) _
    have S16 : Hid (St w noB [] V14) := Lib.hid (S10.out.gr (Gr.un hv15))
    clear S10
    clear hv15
    refine ⟨rfl, hK _ _ ?_⟩
    clear hK
    go_wp2_with fail
    go_ret3
    refine ⟨?_, S16.out.bel⟩
    show Ending.returned (.tuple #[.string (bstr (x.take q13)), .string (bstr (x.drop (q13 + 1))), .bool true]) = _
    (first | rfl | (rcases Ma.idx_cut c x with ⟨h1, h2⟩ | ⟨k, hk, h1, h2⟩; (exfalso; have := HI.out; omega); have e : k = q13 := (by have := HI.out; omega); subst e; rw [h2]))
  | false =>
    have f17 := of_decide_eq_false Hc11.out.symm
    go_upto_region 4 with fail
    refine wpG_region_k (fun K hK => ?_)
    refine @wpG_p _ _ _ _ _ (some 22) (.string (bstr x)) _ _ rfl (by rfl) (fun _ => rfl) ?_
    simp only [n1, n3, n4]
    refine @wpG_p _ _ _ _ _ (some 4) (.string (bstr x)) _ _ rfl (by rfl) (fun _ => rfl) ?_
    simp only [n1, n3, n4]
    refine @wpG_p _ _ _ _ _ (some 5) (.string ⟨#[]⟩) _ _ rfl (by rfl) (fun _ => rfl) ?_
    simp only [n1, n3, n4]
    refine @wpG_p _ _ _ _ _ (some 6) (.bool false) _ _ rfl (by rfl) (fun _ => rfl) ?_
    simp only [n1, n3, n4]
    refine wpG_done (fun V18 hv19 => ?_)
    have S20 : Hid (St w noB [] V18) := Lib.hid (S10.out.gr hv19)
    clear S10
    clear hv19
    refine ⟨rfl, hK _ _ ?_⟩
    clear hK
    go_wp2_with fail
    go_ret3
    refine ⟨?_, S20.out.bel⟩
    show Ending.returned (.tuple #[.string (bstr x), .string ⟨#[]⟩, .bool false]) = _
    (first | rfl | ((rcases Ma.idx_cut c x with ⟨h1, h2⟩ | ⟨k, hk, h1, h2⟩) <;> first | (exfalso; have := HI.out; omega) | (rw [h2]; done) | (rw [h2]; rfl)))
set_option maxRecDepth 1000000 in
set_option maxHeartbeats 4000000 in
theorem cut_any (x : List UInt8) (c : UInt8) (w : World) (hx : x.length ≤ 4611686018427387904) :
    Calls Tryd.prog 39 #[.string (bstr x), .string (bstr [c])] w fun e w' => e = .returned (.tuple #[.string (bstr ((Ma.cut c x).1)), .string (bstr ((Ma.cut c x).2.1)), .bool ((Ma.cut c x).2.2)]) ∧ Below w.heap.size w w' := by
  have S1 : Hid (St w noB [] w) := Lib.hid (St.start w)
  go_enter Tryd.func39, Tryd.ntmps39
  go_upto_region 0 with fail
  refine wpG_region_k (fun K hK => ?_)
  refine @wpG_p _ _ _ _ _ (some 4) (.string ⟨#[]⟩) _ _ rfl (by rfl) (fun _ => rfl) ?_
  simp only [n1, n3, n4]
  refine @wpG_p _ _ _ _ _ (some 5) (.string ⟨#[]⟩) _ _ rfl (by rfl) (fun _ => rfl) ?_
  simp only [n1, n3, n4]
  refine @wpG_p _ _ _ _ _ (some 6) (.bool false) _ _ rfl (by rfl) (fun _ => rfl) ?_
  simp only [n1, n3, n4]
  refine wpG_done (fun V2 hv3 => ?_)
  have S4 : Hid (St w noB [] V2) := Lib.hid (S1.out.gr hv3)
  clear S1
  clear hv3
  refine ⟨rfl, hK _ _ ?_⟩
  clear hK
  go_upto_region 1 with fail
  refine wpG_region_k (fun K hK => ?_)
  refine @wpG_p _ _ _ _ _ (some 7) (.string (bstr x)) _ _ rfl (by rfl) (fun _ => rfl) ?_
  simp only [n1, n3, n4]
  refine @wpG_p _ _ _ _ _ (some 8) (.string (bstr [c])) _ _ rfl (by rfl) (fun _ => rfl) ?_
  simp only [n1, n3, n4]
  refine @wpG_tk _ _ _ _ _ (some 9) (.tuple #[.string (bstr ((Ma.cut c x).1)), .string (bstr ((Ma.cut c x).2.1)), .bool ((Ma.cut c x).2.2)]) _ _ rfl (.call (f := 50) (args := #[.string (bstr x), .string (bstr [c])]) (by rfl) (fun W => by go_simp) (fun W hg => scut_any x c W (by omega))) ?_
  simp only [n1, n3, n4]
  refine @wpG_p _ _ _ _ _ (some 10) (.string (bstr ((Ma.cut c x).1))) _ _ rfl (by rfl) (fun W => by go_simp) ?_
  simp only [n1, n3, n4]
  refine @wpG_p _ _ _ _ _ (some 11) (.string (bstr ((Ma.cut c x).2.1))) _ _ rfl (by rfl) (fun W => by go_simp) ?_
  simp only [n1, n3, n4]
  refine @wpG_p _ _ _ _ _ (some 12) (.bool ((Ma.cut c x).2.2)) _ _ rfl (by rfl) (fun W => by go_simp) ?_
  simp only [n1, n3, n4]
  refine @wpG_p _ _ _ _ _ (some 4) (.string (bstr ((Ma.cut c x).1))) _ _ rfl (by rfl) (fun _ => rfl) ?_
  simp only [n1, n3, n4]
  refine @wpG_p _ _ _ _ _ (some 5) (.string (bstr ((Ma.cut c x).2.1))) _ _ rfl (by rfl) (fun _ => rfl) ?_
  simp only [n1, n3, n4]
  refine @wpG_p _ _ _ _ _ (some 6) (.bool ((Ma.cut c x).2.2)) _ _ rfl (by rfl) (fun _ => rfl) ?_
  simp only [n1, n3, n4]
  refine wpG_done (fun V5 hv6 => ?_)
  have S7 : Hid (St w noB [] V5) := Lib.hid (S4.out.gr hv6)
  clear S4
  clear hv6
  refine ⟨rfl, hK _ _ ?_⟩
  clear hK
  go_wp2_with fail
  go_ret3
  refine ⟨?_, S7.out.bel⟩
  show Ending.returned (.tuple #[.string (bstr ((Ma.cut c x).1)), .string (bstr ((Ma.cut c x).2.1)), .bool ((Ma.cut c x).2.2)]) = _
  (first | rfl | (rfl))
set_option maxRecDepth 1000000 in
set_option maxHeartbeats 4000000 in
theorem sclone_any (x : List UInt8) (w : World) (hx : x.length ≤ 281474976710656) :
    Calls Tryd.prog 54 #[.string (bstr x)] w fun e w' => e = .returned (.string (bstr x)) ∧ Below w.heap.size w w' := by
  have S1 : Hid (St w noB [] w) := Lib.hid (St.start w)
  go_enter Tryd.func54, Tryd.ntmps54
  go_upto_region 0 with fail
  refine wpG_region_k (fun K hK => ?_)
  refine @wpG_p _ _ _ _ _ (some 2) (.string ⟨#[]⟩) _ _ rfl (by rfl) (fun _ => rfl) ?_
  simp only [n1, n3, n4]
  refine wpG_done (fun V2 hv3 => ?_)
  have S4 : Hid (St w noB [] V2) := Lib.hid (S1.out.gr hv3)
  clear S1
  clear hv3
  refine ⟨rfl, hK _ _ ?_⟩
  clear hK
  go_upto_region 1 with fail
  refine wpG_region_k (fun K hK => ?_)
  refine @wpG_p _ _ _ _ _ (some 3) (.string (bstr x)) _ _ rfl (by rfl) (fun _ => rfl) ?_
  simp only [n1, n3, n4]
  refine @wpG_tk _ _ _ _ _ (some 4) (.string (bstr x)) _ _ rfl (.call (f := 64) (args := #[.string (bstr x)]) (by rfl) (fun W => by go_simp) (fun W hg => clone_any x W (by omega))) ?_
  simp only [n1, n3, n4]
  refine @wpG_p _ _ _ _ _ (some 2) (.string (bstr x)) _ _ rfl (by rfl) (fun _ => rfl) ?_
  simp only [n1, n3, n4]
  refine wpG_done (fun V5 hv6 => ?_)
  have S7 : Hid (St w noB [] V5) := Lib.hid (S4.out.gr hv6)
  clear S4
  clear hv6
  refine ⟨rfl, hK _ _ ?_⟩
  clear hK
  go_wp2_with fail
  go_ret
  refine ⟨?_, S7.out.bel⟩
  show Ending.returned (.string (bstr x)) = _
  (first | rfl | (rfl))
set_option maxRecDepth 1000000 in
set_option maxHeartbeats 4000000 in
theorem word_any (x : List UInt8) (m : Bool) (g : Nat) (F : Nat → Prop) (w : World) (hx : x.length ≤ 4611686018427387904) (hB : Sts [blk g 73 [.string (bstr x), .bool m]] w F) :
    Calls Tryd.prog 51 #[.pointer (some ⟨g, 0, none⟩)] w fun e w' => e = .returned (.string (bstr (Ma.wd x))) ∧ St w F [blk g 73 [.string (bstr (Ma.nx x)), .bool (Ma.mo x)]] w' := by
  have S1 : Hid (St w F [blk g 73 [.string (bstr x), .bool m]] w) := Lib.hid (St.borrow hB)
  go_enter Tryd.func51, Tryd.ntmps51
  go_upto_region 0 with fail
  refine wpG_region_k (fun K hK => ?_)
  refine @wpG_p _ _ _ _ _ (some 2) (.string ⟨#[]⟩) _ _ rfl (by rfl) (fun _ => rfl) ?_
  simp only [n1, n3, n4]
  refine wpG_done (fun V2 hv3 => ?_)
  have S4 : Hid (St w F [blk g 73 [.string (bstr x), .bool m]] V2) := Lib.hid (S1.out.gr hv3)
  clear S1
  clear hv3
  refine ⟨rfl, hK _ _ ?_⟩
  clear hK
  go_upto_region 1 with fail
  refine wpG_region_k (fun K hK => ?_)
  refine @wpG_p _ _ _ _ _ (some 7) (.pointer (some ⟨g, 0, none⟩)) _ _ rfl (by rfl) (fun _ => rfl) ?_
  simp only [n1, n3, n4]
  refine @wpG_p _ _ _ _ _ (some 8) (.pointer (some ⟨g, 0, none⟩)) _ _ rfl (by rfl) (fun W => by go_simp) ?_
  simp only [n1, n3, n4]
  refine @wpG_p _ _ _ _ _ (some 9) (.pointer (some ⟨g, 0, none⟩)) _ _ rfl (by rfl) (fun W => by go_simp) ?_
  simp only [n1, n3, n4]
  refine @wpG_r _ _ _ _ _ (some 10) (.string (bstr x)) _ _ rfl (by rfl) (fun W hg => by have c := (S4.out.gr hg).cell 0 rfl 0 rfl; go_simp) ?_
  simp only [n1, n3, n4]
  refine @wpG_tk _ _ _ _ _ (some 11) (.tuple #[.string (bstr (Ma.wd x)), .string (bstr (Ma.nx x)), .bool (Ma.mo x)]) _ _ rfl (.call (f := 39) (args := #[.string (bstr x), .string ⟨#[32]⟩]) (by rfl) (fun W => by go_simp) (fun W hg => cut_any x 32 W (by omega))) ?_
  simp only [n1, n3, n4]
  refine @wpG_p _ _ _ _ _ (some 6) (.tuple #[.string (bstr (Ma.wd x)), .string (bstr (Ma.nx x)), .bool (Ma.mo x)]) _ _ rfl (by rfl) (fun _ => rfl) ?_
  simp only [n1, n3, n4]
  refine @wpG_p _ _ _ _ _ (some 12) (.string (bstr (Ma.wd x))) _ _ rfl (by rfl) (fun W => by go_simp) ?_
  simp only [n1, n3, n4]
  refine @wpG_p _ _ _ _ _ (some 13) (.string (bstr (Ma.nx x))) _ _ rfl (by rfl) (fun W => by go_simp) ?_
  simp only [n1, n3, n4]
  refine @wpG_p _ _ _ _ _ (some 14) (.bool (Ma.mo x)) _ _ rfl (by rfl) (fun W => by go_simp) ?_
  simp only [n1, n3, n4]
  refine @wpG_p _ _ _ _ _ (some 3) (.string (bstr (Ma.wd x))) _ _ rfl (by rfl) (fun _ => rfl) ?_
  simp only [n1, n3, n4]
  refine @wpG_p _ _ _ _ _ (some 4) (.string (bstr (Ma.nx x))) _ _ rfl (by rfl) (fun _ => rfl) ?_
  simp only [n1, n3, n4]
  refine @wpG_p _ _ _ _ _ (some 5) (.bool (Ma.mo x)) _ _ rfl (by rfl) (fun _ => rfl) ?_
  simp only [n1, n3, n4]
  refine wpG_done (fun V5 hv6 => ?_)
  have S7 : Hid (St w F [blk g 73 [.string (bstr x), .bool m]] V5) := Lib.hid (S4.out.gr hv6)
  clear S4
  clear hv6
  refine ⟨rfl, hK _ _ ?_⟩
  clear hK
  go_upto_region 2 with fail
  refine wpG_region_k (fun K hK => ?_)
  refine @wpG_p _ _ _ _ _ (some 15) (.pointer (some ⟨g, 0, none⟩)) _ _ rfl (by rfl) (fun _ => rfl) ?_
  simp only [n1, n3, n4]
  refine @wpG_p _ _ _ _ _ (some 16) (.pointer (some ⟨g, 0, none⟩)) _ _ rfl (by rfl) (fun _ => rfl) ?_
  simp only [n1, n3, n4]
  refine @wpG_p _ _ _ _ _ (some 17) (.string (bstr (Ma.nx x))) _ _ rfl (by rfl) (fun _ => rfl) ?_
  simp only [n1, n3, n4]
  refine @wpG_p _ _ _ _ _ (some 18) (.bool (Ma.mo x)) _ _ rfl (by rfl) (fun _ => rfl) ?_
  simp only [n1, n3, n4]
  refine @wpG_p _ _ _ _ _ (some 19) (.pointer (some ⟨g, 0, none⟩)) _ _ rfl (by rfl) (fun W => by go_simp) ?_
  simp only [n1, n3, n4]
  refine @wpG_p _ _ _ _ _ (some 20) (.pointer (some ⟨g, 0, none⟩)) _ _ rfl (by rfl) (fun W => by go_simp) ?_
  simp only [n1, n3, n4]
  refine wpG_store (none) rfl (by rfl) (fun W8 hg9 => ⟨W8.setCell ⟨g, 0, none⟩ (.string (bstr (Ma.nx x))), by have c := (S7.out.gr hg9).cell 0 rfl 0 rfl; have c2 := (S7.out.gr hg9).soft 0 rfl 0 rfl; go_simp, ?_⟩)
  simp only [n2]
  obtain ⟨U10, hu_, hS_⟩ := ((S7.out.gr hg9).put1 0 rfl 0 (.string (bstr (Ma.nx x)))).named
  rw [← hu_]
  have S11 : Hid (St w F [blk g 73 [.string (bstr (Ma.nx x)), .bool m]] U10) := Lib.hid hS_
  clear S7
  clear hu_ hS_ hg9
  refine @wpG_p _ _ _ _ _ (some 21) (.pointer (some ⟨g, 0, none⟩)) _ _ rfl (by rfl) (fun W => by go_simp) ?_
  simp only [n1, n3, n4]
  refine @wpG_p _ _ _ _ _ (some 22) (.pointer (some ⟨g, 1, none⟩)) _ _ rfl (by rfl) (fun W => by go_simp) ?_
  simp only [n1, n3, n4]
  refine wpG_store (none) rfl (by rfl) (fun W12 hg13 => ⟨W12.setCell ⟨g, 1, none⟩ (.bool (Ma.mo x)), by have c := (S11.out.gr hg13).cell 0 rfl 1 rfl; have c2 := (S11.out.gr hg13).soft 0 rfl 1 rfl; go_simp, ?_⟩)
  simp only [n2]
  obtain ⟨U14, hu_, hS_⟩ := ((S11.out.gr hg13).put1 0 rfl 1 (.bool (Ma.mo x))).named
  rw [← hu_]
  have S15 : Hid (St w F [blk g 73 [.string (bstr (Ma.nx x)), .bool (Ma.mo x)]] U14) := Lib.hid hS_
  clear S11
  clear hu_ hS_ hg13
  refine wpG_done (fun V16 hv17 => ?_)
  have S18 : Hid (St w F [blk g 73 [.string (bstr (Ma.nx x)), .bool (Ma.mo x)]] V16) := Lib.hid (S15.out.gr hv17)
  clear S15
  clear hv17
  refine ⟨rfl, hK _ _ ?_⟩
  clear hK
  go_upto_region 3 with fail
  refine wpG_region_k (fun K hK => ?_)
  refine @wpG_p _ _ _ _ _ (some 23) (.string (bstr (Ma.wd x))) _ _ rfl (by rfl) (fun _ => rfl) ?_
  simp only [n1, n3, n4]
  refine @wpG_p _ _ _ _ _ (some 2) (.string (bstr (Ma.wd x))) _ _ rfl (by rfl) (fun _ => rfl) ?_
  simp only [n1, n3, n4]
  refine wpG_done (fun V19 hv20 => ?_)
  have S21 : Hid (St w F [blk g 73 [.string (bstr (Ma.nx x)), .bool (Ma.mo x)]] V19) := Lib.hid (S18.out.gr hv20)
  clear S18
  clear hv20
  refine ⟨rfl, hK _ _ ?_⟩
  clear hK
  go_wp2_with fail
  go_ret
  have hS_ := S21.out
  clear S21
  (exact ⟨rfl, hS_⟩)
set_option maxRecDepth 1000000 in
set_option maxHeartbeats 4000000 in
theorem pnum_ok (x : List UInt8) (n : Int) (w : World) (hE : Ev w) (hl : x.length ≤ 3) (ha : Lib.atoi x = some n) :
    Calls Tryd.prog 63 #[.string (bstr x)] w fun e w' => e = .returned (.tuple #[.int .i64 (Ma.nv x), .bool ((Ma.num x).isSome)]) ∧ Below w.heap.size w w' := by
  have HE := Lib.hid hE
  have HK := Lib.hid hE.k
  clear hE
  obtain ⟨hb1, hb2⟩ := Ma.atoi_bound hl ha
  have S1 : Hid (St w noB [] w) := Lib.hid (St.start w)
  go_enter Tryd.func63, Tryd.ntmps63
  go_upto_region 0 with fail
  refine wpG_region_k (fun K hK => ?_)
  refine @wpG_p _ _ _ _ _ (some 2) (.int .i64 0) _ _ rfl (by rfl) (fun _ => rfl) ?_
  simp only [n1, n3, n4]
  refine @wpG_p _ _ _ _ _ (some 3) (.bool false) _ _ rfl (by rfl) (fun _ => rfl) ?_
  simp only [n1, n3, n4]
  refine wpG_done (fun V2 hv3 => ?_)
  have S4 : Hid (St w noB [] V2) := Lib.hid (S1.out.gr hv3)
  clear S1
  clear hv3
  refine ⟨rfl, hK _ _ ?_⟩
  clear hK
  go_upto_region 1 with fail
  refine wpG_region_k (fun K hK => ?_)
  refine @wpG_p _ _ _ _ _ (some 6) (.string (bstr x)) _ _ rfl (by rfl) (fun _ => rfl) ?_
  simp only [n1, n3, n4]
  refine @wpG_p _ _ _ _ _ (some 7) (.int .i64 (x.length : Int)) _ _ rfl (by rfl) (fun W => op_str_len W x rfl rfl Tryd.underlying9) ?_
  simp only [n1, n3, n4]
  refine @wpG_p _ _ _ _ _ (some 8) (.bool false) _ _ rfl (by rfl) (fun W => by have hq : ¬ ((x.length : Int) > 3) := (by omega); first | (go_simp; done) | (go_simp <;> omega)) ?_
  simp only [n1, n3, n4]
  refine wpG_done (fun V5 hv6 => ?_)
  have S7 : Hid (St w noB [] V5) := Lib.hid (S4.out.gr hv6)
  clear S4
  clear hv6
  refine ⟨rfl, hK _ _ ?_⟩
  clear hK
  go_upto_region 3 with fail
  refine wpG_region_k (fun K hK => ?_)
  refine @wpG_p _ _ _ _ _ (some 10) (.string (bstr x)) _ _ rfl (by rfl) (fun _ => rfl) ?_
  simp only [n1, n3, n4]
  refine @wpG_tk _ _ _ _ _ (some 11) (.tuple #[.int .i64 n, .nilIface]) _ _ rfl (.call (f := 71) (args := #[.string (bstr x)]) (by rfl) (fun W => by go_simp) (fun W hg => atoi_ok x n W hl ha)) ?_
  simp only [n1, n3, n4]
  refine @wpG_p _ _ _ _ _ (some 9) (.tuple #[.int .i64 n, .nilIface]) _ _ rfl (by rfl) (fun _ => rfl) ?_
  simp only [n1, n3, n4]
  refine @wpG_p _ _ _ _ _ (some 12) (.int .i64 n) _ _ rfl (by rfl) (fun W => by go_simp) ?_
  simp only [n1, n3, n4]
  refine @wpG_p _ _ _ _ _ (some 13) (.nilIface) _ _ rfl (by rfl) (fun W => by go_simp) ?_
  simp only [n1, n3, n4]
  refine @wpG_p _ _ _ _ _ (some 4) (.int .i64 n) _ _ rfl (by rfl) (fun _ => rfl) ?_
  simp only [n1, n3, n4]
  refine @wpG_p _ _ _ _ _ (some 5) (.nilIface) _ _ rfl (by rfl) (fun _ => rfl) ?_
  simp only [n1, n3, n4]
  refine wpG_done (fun V8 hv9 => ?_)
  have S10 : Hid (St w noB [] V8) := Lib.hid (S7.out.gr hv9)
  clear S7
  clear hv9
  refine ⟨rfl, hK _ _ ?_⟩
  clear hK
  go_upto_region 4 with fail
  refine wpG_region_k (fun K hK => ?_)
  refine @wpG_p _ _ _ _ _ (some 14) (.nilIface) _ _ rfl (by rfl) (fun _ => rfl) ?_
  simp only [n1, n3, n4]
  refine @wpG_p _ _ _ _ _ (some 15) (.bool false) _ _ rfl (by rfl) (fun W => by go_simp) ?_
  simp only [n1, n3, n4]
  refine @wpG_p _ _ _ _ _ (some 16) (.bool false) _ _ rfl (by rfl) (fun _ => rfl) ?_
  simp only [n1, n3, n4]
  refine @wpG_p _ _ _ _ _ (some 17) (.int .i64 n) _ _ rfl (by rfl) (fun _ => rfl) ?_
  simp only [n1, n3, n4]
  refine @wpG_p _ _ _ _ _ (some 18) (.bool (decide (n < 0))) _ _ rfl (by rfl) (fun W => op_int_lss W n 0 rfl rfl rfl Tryd.underlying3) ?_
  simp only [n1, n3, n4]
  refine @wpG_p _ _ _ _ _ (some 19) (.bool (decide (n < 0))) _ _ rfl (by rfl) (fun W => by go_simp) ?_
  simp only [n1, n3, n4]
  refine @wpG_p _ _ _ _ _ (some 20) (.bool (decide (n < 0))) _ _ rfl (by rfl) (fun _ => rfl) ?_
  simp only [n1, n3, n4]
  obtain ⟨c11, hc11⟩ : ∃ q_, q_ = (decide (n < 0)) := ⟨_, rfl⟩
  rw [← hc11]
  have Hc11 := Lib.hid hc11
  clear hc11
  cases c11 with
  | true =>
    have f12 := of_decide_eq_true Hc11.out.symm
    refine @wpG_no _ _ _ _ _ (some 21) _ _ rfl (by rfl) ?_
    simp only [n1, n3, n4]
    refine @wpG_no _ _ _ _ _ (some 22) _ _ rfl (by rfl) ?_
    simp only [n1, n3, n4]
    refine @wpG_no _ _ _ _ _ (some 23) _ _ rfl (by rfl) ?_
    simp only [n1, n3, n4]
    refine @wpG_no _ _ _ _ _ (some 24) _ _ rfl (by rfl) ?_
    simp only [n1, n3, n4]
    refine @wpG_p _ _ _ _ _ (some 25) (.bool true) _ _ rfl (by rfl) (fun W => by go_simp) ?_
    simp only [n1, n3, n4]
    refine wpG_done (fun V13 hv14 => ?_)
    have S15 : Hid (St w noB [] V13) := Lib.hid (S10.out.gr hv14)
    clear S10
    clear hv14
    refine ⟨rfl, hK _ _ ?_⟩
    clear hK
    go_upto_region 5 with fail
    refine wpG_region_k (fun K hK => ?_)
    refine @wpG_p _ _ _ _ _ (some 2) (.int .i64 0) _ _ rfl (by rfl) (fun _ => rfl) ?_
    simp only [n1, n3, n4]
    refine @wpG_p _ _ _ _ _ (some 3) (.bool false) _ _ rfl (by rfl) (fun _ => rfl) ?_
    simp only [n1, n3, n4]
    refine wpG_done (fun V16 hv17 => ?_)
    have S18 : Hid (St w noB [] V16) := Lib.hid (S15.out.gr hv17)
    clear S15
    clear hv17
    refine ⟨rfl, hK _ _ ?_⟩
    clear hK
    go_wp2_with fail
    go_ret2
    refine ⟨?_, S18.out.bel⟩
    show Ending.returned (.tuple #[.int .i64 0, .bool false]) = _
    (first | rfl | (have hn := Ma.num_neg ha (by omega); simp only [Ma.nv, hn]; rfl))
  | false =>
    have f19 := of_decide_eq_false Hc11.out.symm
    refine @wpG_p _ _ _ _ _ (some 21) (.int .i64 n) _ _ rfl (by rfl) (fun _ => rfl) ?_
    simp only [n1, n3, n4]
    refine @wpG_tk _ _ _ _ _ (some 22) (.string (bstr (Lib.itoa n))) _ _ rfl (.call (f := 46) (args := #[.int .i64 n]) (by rfl) (fun W => by go_simp) (fun W hg => itoa_any n W ⟨by omega, by omega⟩ (HE.out.p.gr (S10.out.gr hg).bel))) ?_
    simp only [n1, n3, n4]
    refine @wpG_p _ _ _ _ _ (some 23) (.string (bstr x)) _ _ rfl (by rfl) (fun _ => rfl) ?_
    simp only [n1, n3, n4]
    refine @wpG_p _ _ _ _ _ (some 24) (.bool (decide (Lib.itoa n ≠ x))) _ _ rfl (by rfl) (fun W => op_str_neq W (Lib.itoa n) x rfl rfl rfl Tryd.underlying9) ?_
    simp only [n1, n3, n4]
    refine @wpG_p _ _ _ _ _ (some 25) (.bool (decide (Lib.itoa n ≠ x))) _ _ rfl (by rfl) (fun W => by go_simp) ?_
    simp only [n1, n3, n4]
    refine wpG_done (fun V20 hv21 => ?_)
    have S22 : Hid (St w noB [] V20) := Lib.hid (S10.out.gr hv21)
    clear S10
    clear hv21
    refine ⟨rfl, hK _ _ ?_⟩
    clear hK
    obtain ⟨c23, hc23⟩ : ∃ q_, q_ = (decide (Lib.itoa n ≠ x)) := ⟨_, rfl⟩
    rw [← hc23]
    have Hc23 := Lib.hid hc23
    clear hc23
    cases c23 with
    | true =>
      have f24 := of_decide_eq_true Hc23.out.symm
      go_upto_region 5 with fail
      refine wpG_region_k (fun K hK => ?_)
      refine @wpG_p _ _ _ _ _ (some 2) (.int .i64 0) _ _ rfl (by rfl) (fun _ => rfl) ?_
      simp only [n1, n3, n4]
      refine @wpG_p _ _ _ _ _ (some 3) (.bool false) _ _ rfl (by rfl) (fun _ => rfl) ?_
      simp only [n1, n3, n4]
      refine wpG_done (fun V25 hv26 => ?_)
      have S27 : Hid (St w noB [] V25) := Lib.hid (S22.out.gr hv26)
      clear S22
      clear hv26
      refine ⟨rfl, hK _ _ ?_⟩
      clear hK
      go_wp2_with fail
      go_ret2
      refine ⟨?_, S27.out.bel⟩
      show Ending.returned (.tuple #[.int .i64 0, .bool false]) = _
      (first | rfl | (have hn := Ma.num_other ha f24; simp only [Ma.nv, hn]; rfl))
    | false =>
      have f28 := Lib.hid (Decidable.not_not.1 (of_decide_eq_false Hc23.out.symm))
      go_upto_region 6 with fail
      refine wpG_region_k (fun K hK => ?_)
      refine @wpG_p _ _ _ _ _ (some 26) (.int .i64 n) _ _ rfl (by rfl) (fun _ => rfl) ?_
      simp only [n1, n3, n4]
      refine @wpG_p _ _ _ _ _ (some 2) (.int .i64 n) _ _ rfl (by rfl) (fun _ => rfl) ?_
      simp only [n1, n3, n4]
      refine @wpG_p _ _ _ _ _ (some 3) (.bool true) _ _ rfl (by rfl) (fun _ => rfl) ?_
      simp only [n1, n3, n4]
      refine wpG_done (fun V29 hv30 => ?_)
      have S31 : Hid (St w noB [] V29) := Lib.hid (S22.out.gr hv30)
      clear S22
      clear hv30
      refine ⟨rfl, hK _ _ ?_⟩
      clear hK
      go_wp2_with fail
      go_ret2
      refine ⟨?_, S31.out.bel⟩
      show Ending.returned (.tuple #[.int .i64 n, .bool true]) = _
      (first | rfl | (have e_f28 := f28.out; have hn := Ma.num_yes hl ha (by omega) e_f28; have e : ((n.toNat : Nat) : Int) = n := (by omega); simp only [Ma.nv, hn, Option.getD_some, e]; rfl))
set_option maxRecDepth 1000000 in
set_option maxHeartbeats 4000000 in
theorem pnum_no (x : List UInt8) (w : World) (hE : Ev w) (hl : x.length ≤ 3) (ha : Lib.atoi x = none) :
    Calls Tryd.prog 63 #[.string (bstr x)] w fun e w' => e = .returned (.tuple #[.int .i64 (Ma.nv x), .bool ((Ma.num x).isSome)]) ∧ Below w.heap.size w w' := by
  have HE := Lib.hid hE
  have HK := Lib.hid hE.k
  clear hE
  have S1 : Hid (St w noB [] w) := Lib.hid (St.start w)
  go_enter Tryd.func63, Tryd.ntmps63
  go_upto_region 0 with fail
  refine wpG_region_k (fun K hK => ?_)
  refine @wpG_p _ _ _ _ _ (some 2) (.int .i64 0) _ _ rfl (by rfl) (fun _ => rfl) ?_
  simp only [n1, n3, n4]
  refine @wpG_p _ _ _ _ _ (some 3) (.bool false) _ _ rfl (by rfl) (fun _ => rfl) ?_
  simp only [n1, n3, n4]
  refine wpG_done (fun V2 hv3 => ?_)
  have S4 : Hid (St w noB [] V2) := Lib.hid (S1.out.gr hv3)
  clear S1
  clear hv3
  refine ⟨rfl, hK _ _ ?_⟩
  clear hK
  go_upto_region 1 with fail
  refine wpG_region_k (fun K hK => ?_)
  refine @wpG_p _ _ _ _ _ (some 6) (.string (bstr x)) _ _ rfl (by rfl) (fun _ => rfl) ?_
  simp only [n1, n3, n4]
  refine @wpG_p _ _ _ _ _ (some 7) (.int .i64 (x.length : Int)) _ _ rfl (by rfl) (fun W => op_str_len W x rfl rfl Tryd.underlying9) ?_
  simp only [n1, n3, n4]
  refine @wpG_p _ _ _ _ _ (some 8) (.bool false) _ _ rfl (by rfl) (fun W => by have hq : ¬ ((x.length : Int) > 3) := (by omega); first | (go_simp; done) | (go_simp <;> omega)) ?_
  simp only [n1, n3, n4]
  refine wpG_done (fun V5 hv6 => ?_)
  have S7 : Hid (St w noB [] V5) := Lib.hid (S4.out.gr hv6)
  clear S4
  clear hv6
  refine ⟨rfl, hK _ _ ?_⟩
  clear hK
  go_upto_region 3 with fail
  refine wpG_region_k (fun K hK => ?_)
  refine @wpG_p _ _ _ _ _ (some 10) (.string (bstr x)) _ _ rfl (by rfl) (fun _ => rfl) ?_
  simp only [n1, n3, n4]
  refine wpG_call (some 11) 71 #[.string (bstr x)] rfl (by rfl) (fun W => by go_simp) (fun W8 hg9 => ?_)
  refine (atoi_err x W8 hl ha (HE.out.e.gr (S7.out.gr hg9).bel)).mono ?_
  rintro e w10 ⟨N_, rfl, hb_⟩
  refine ⟨_, rfl, ?_⟩
  have hT_ := (S7.out.gr hg9).gr hb_
  simp only [n1, n3, n4]
  have S11 : Hid (St w noB [] w10) := Lib.hid hT_
  clear S7
  clear hT_ hb_ hg9
  refine @wpG_p _ _ _ _ _ (some 9) (.tuple #[.int .i64 0, .iface 115 (.pointer (some ⟨N_, 0, none⟩))]) _ _ rfl (by rfl) (fun _ => rfl) ?_
  simp only [n1, n3, n4]
  refine @wpG_p _ _ _ _ _ (some 12) (.int .i64 0) _ _ rfl (by rfl) (fun W => by go_simp) ?_
  simp only [n1, n3, n4]
  refine @wpG_p _ _ _ _ _ (some 13) (.iface 115 (.pointer (some ⟨N_, 0, none⟩))) _ _ rfl (by rfl) (fun W => by go_simp) ?_
  simp only [n1, n3, n4]
  refine @wpG_p _ _ _ _ _ (some 4) (.int .i64 0) _ _ rfl (by rfl) (fun _ => rfl) ?_
  simp only [n1, n3, n4]
  refine @wpG_p _ _ _ _ _ (some 5) (.iface 115 (.pointer (some ⟨N_, 0, none⟩))) _ _ rfl (by rfl) (fun _ => rfl) ?_
  simp only [n1, n3, n4]
  refine wpG_done (fun V12 hv13 => ?_)
  have S14 : Hid (St w noB [] V12) := Lib.hid (S11.out.gr hv13)
  clear S11
  clear hv13
  refine ⟨rfl, hK _ _ ?_⟩
  clear hK
  go_upto_region 4 with fail
  refine wpG_region_k (fun K hK => ?_)
  refine @wpG_p _ _ _ _ _ (some 14) (.iface 115 (.pointer (some ⟨N_, 0, none⟩))) _ _ rfl (by rfl) (fun _ => rfl) ?_
  simp only [n1, n3, n4]
  refine @wpG_p _ _ _ _ _ (some 15) (.bool true) _ _ rfl (by rfl) (fun W => by go_simp) ?_
  simp only [n1, n3, n4]
  refine @wpG_p _ _ _ _ _ (some 16) (.bool true) _ _ rfl (by rfl) (fun _ => rfl) ?_
  simp only [n1, n3, n4]
  refine @wpG_no _ _ _ _ _ (some 17) _ _ rfl (by rfl) ?_
  simp only [n1, n3, n4]
  refine @wpG_no _ _ _ _ _ (some 18) _ _ rfl (by rfl) ?_
  simp only [n1, n3, n4]
  refine @wpG_p _ _ _ _ _ (some 19) (.bool true) _ _ rfl (by rfl) (fun W => by go_simp) ?_
  simp only [n1, n3, n4]
  refine @wpG_p _ _ _ _ _ (some 20) (.bool true) _ _ rfl (by rfl) (fun _ => rfl) ?_
  simp only [n1, n3, n4]
  refine @wpG_no _ _ _ _ _ (some 21) _ _ rfl (by rfl) ?_
  simp only [n1, n3, n4]
  refine @wpG_no _ _ _ _ _ (some 22) _ _ rfl (by rfl) ?_
  simp only [n1, n3, n4]
  refine @wpG_no _ _ _ _ _ (some 23) _ _ rfl (by rfl) ?_
  simp only [n1, n3, n4]
  refine @wpG_no _ _ _ _ _ (some 24) _ _ rfl (by rfl) ?_
  simp only [n1, n3, n4]
  refine @wpG_p _ _ _ _ _ (some 25) (.bool true) _ _ rfl (by rfl) (fun W => by go_simp) ?_
  simp only [n1, n3, n4]
  refine wpG_done (fun V15 hv16 => ?_)
  have S17 : Hid (St w noB [] V15) := Lib.hid (S14.out.gr hv16)
  clear S14
  clear hv16
  refine ⟨rfl, hK _ _ ?_⟩
  clear hK
  go_upto_region 5 with fail
  refine wpG_region_k (fun K hK => ?_)
  refine @wpG_p _ _ _ _ _ (some 2) (.int .i64 0) _ _ rfl (by rfl) (fun _ => rfl) ?_
  simp only [n1, n3, n4]
  refine @wpG_p _ _ _ _ _ (some 3) (.bool false) _ _ rfl (by rfl) (fun _ => rfl) ?_
  simp only [n1, n3, n4]
  refine wpG_done (fun V18 hv19 => ?_)
  have S20 : Hid (St w noB [] V18) := Lib.hid (S17.out.gr hv19)
  clear S17
  clear hv19
  refine ⟨rfl, hK _ _ ?_⟩
  clear hK
  go_wp2_with fail
  go_ret2
  refine ⟨?_, S20.out.bel⟩
  show Ending.returned (.tuple #[.int .i64 0, .bool false]) = _
  (first | rfl | (have hn := Ma.num_no ha; simp only [Ma.nv, hn]; rfl))
set_option maxRecDepth 1000000 in
set_option maxHeartbeats 4000000 in
theorem pnum_long (x : List UInt8) (w : World) (hl : ¬ x.length ≤ 3) :
    Calls Tryd.prog 63 #[.string (bstr x)] w fun e w' => e = .returned (.tuple #[.int .i64 (Ma.nv x), .bool ((Ma.num x).isSome)]) ∧ Below w.heap.size w w' := by
  have S1 : Hid (St w noB [] w) := Lib.hid (St.start w)
  go_enter Tryd.func63, Tryd.ntmps63
  go_upto_region 0 with fail
  refine wpG_region_k (fun K hK => ?_)
  refine @wpG_p _ _ _ _ _ (some 2) (.int .i64 0) _ _ rfl (by rfl) (fun _ => rfl) ?_
  simp only [n1, n3, n4]
  refine @wpG_p _ _ _ _ _ (some 3) (.bool false) _ _ rfl (by rfl) (fun _ => rfl) ?_
  simp only [n1, n3, n4]
  refine wpG_done (fun V2 hv3 => ?_)
  have S4 : Hid (St w noB [] V2) := Lib.hid (S1.out.gr hv3)
  clear S1
  clear hv3
  refine ⟨rfl, hK _ _ ?_⟩
  clear hK
  go_upto_region 1 with fail
  refine wpG_region_k (fun K hK => ?_)
  refine @wpG_p _ _ _ _ _ (some 6) (.string (bstr x)) _ _ rfl (by rfl) (fun _ => rfl) ?_
  simp only [n1, n3, n4]
  refine @wpG_p _ _ _ _ _ (some 7) (.int .i64 (x.length : Int)) _ _ rfl (by rfl) (fun W => op_str_len W x rfl rfl Tryd.underlying9) ?_
  simp only [n1, n3, n4]
  refine @wpG_p _ _ _ _ _ (some 8) (.bool true) _ _ rfl (by rfl) (fun W => by have hq : ((x.length : Int) > 3) := (by omega); first | (go_simp; done) | (go_simp <;> omega)) ?_
  simp only [n1, n3, n4]
  refine wpG_done (fun V5 hv6 => ?_)
  have S7 : Hid (St w noB [] V5) := Lib.hid (S4.out.gr hv6)
  clear S4
  clear hv6
  refine ⟨rfl, hK _ _ ?_⟩
  clear hK
  go_upto_region 2 with fail
  refine wpG_region_k (fun K hK => ?_)
  refine @wpG_p _ _ _ _ _ (some 2) (.int .i64 0) _ _ rfl (by rfl) (fun _ => rfl) ?_
  simp only [n1, n3, n4]
  refine @wpG_p _ _ _ _ _ (some 3) (.bool false) _ _ rfl (by rfl) (fun _ => rfl) ?_
  simp only [n1, n3, n4]
  refine wpG_done (fun V8 hv9 => ?_)
  have S10 : Hid (St w noB [] V8) := Lib.hid (S7.out.gr hv9)
  clear S7
  clear hv9
  refine ⟨rfl, hK _ _ ?_⟩
  clear hK
  go_wp2_with fail
  go_ret2
  refine ⟨?_, S10.out.bel⟩
  show Ending.returned (.tuple #[.int .i64 0, .bool false]) = _
  (first | rfl | (have hn := Ma.num_long hl; simp only [Ma.nv, hn]; rfl))
theorem pnum_any (x : List UInt8) (w : World) (hE : Ev w) : Calls Tryd.prog 63 #[.string (bstr x)] w fun e w' => e = .returned (.tuple #[.int .i64 (Ma.nv x), .bool ((Ma.num x).isSome)]) ∧ Below w.heap.size w w' := by
  by_cases hl : x.length ≤ 3
  · cases ha : Lib.atoi x with
    | none => exact pnum_no x w hE hl ha
    | some n => exact pnum_ok x n w hE hl ha
  · exact pnum_long x w hl

end Go.Proofs.YtpjjddjoegnipaaDoor
