/-
  Contracts: words and numbers of the specification.
-/
import Derived.Test.YtpjjddjoegnipaaDoorMc3
import Derived.Test.YtpjjddjoegnipaaDoorMae
import Derived.Test.YtpjjddjoegnipaaDoorMa4
import Derived.Handy
namespace Go.Proofs.YtpjjddjoegnipaaDoor
open Go Go.RowKit
set_option linter.unusedVariables false
set_option linter.unusedSimpArgs false
set_option maxRecDepth 1000000 in
set_option maxHeartbeats 4000000 in
theorem words_any (x : List UInt8) (w : World) (hx : x.length ≤ 1000000) :
    Calls Tryd.prog 56 #[.string (bstr x)] w fun e w' => ∃ A n c, e = .returned (.slice A n c) ∧ St w noB [own (.slice A n c) 9 1 n ((Ma.words x).map sv)] w' := by
  have S1 : Hid (St w noB [] w) := Lib.hid (St.start w)
  go_enter Tryd.func56, Tryd.ntmps56
  go_upto_region 0 with fail
  refine wpG_region_k (fun K hK => ?_)
  refine @wpG_p _ _ _ _ _ (some 2) (.slice none 0 0) _ _ rfl (by rfl) (fun _ => rfl) ?_
  simp only [n1, n3, n4]
  refine wpG_done (fun V2 hv3 => ?_)
  have S4 : Hid (St w noB [] V2) := Lib.hid (S1.out.gr hv3)
  clear S1
  clear hv3
  refine ⟨rfl, hK _ _ ?_⟩
  clear hK
  go_upto_region 1 with fail
  refine wpG_region_k (fun K hK => ?_)
  refine @wpG_p _ _ _ _ _ (some 3) (.slice none 0 0) _ _ rfl (by rfl) (fun _ => rfl) ?_
  simp only [n1, n3, n4]
  refine wpG_done (fun V5 hv6 => ?_)
  have S7 : Hid (St w noB [] V5) := Lib.hid (S4.out.gr hv6)
  clear S4
  clear hv6
  refine ⟨rfl, hK _ _ ?_⟩
  clear hK
  go_upto_region 2 with fail
  refine wpG_region_k (fun K hK => ?_)
  refine @wpG_p _ _ _ _ _ (some 4) (.int .i64 0) _ _ rfl (by rfl) (fun _ => rfl) ?_
  simp only [n1, n3, n4]
  refine wpG_done (fun V8 hv9 => ?_)
  have S10 : Hid (St w noB [] V8) := Lib.hid (S7.out.gr hv9)
  clear S7
  clear hv9
  refine ⟨rfl, hK _ _ ?_⟩
  clear hK
  go_upto_region 3 with fail
  refine wpG_region_k (fun K hK => ?_)
  refine @wpG_p _ _ _ _ _ (some 5) (.int .i64 0) _ _ rfl (by rfl) (fun _ => rfl) ?_
  simp only [n1, n3, n4]
  refine wpG_done (fun V11 hv12 => ?_)
  have S13 : Hid (St w noB [] V11) := Lib.hid (S10.out.gr hv12)
  clear S10
  clear hv12
  refine ⟨rfl, hK _ _ ?_⟩
  clear hK
  skip
  have S14 : Hid (St w noB [own (.slice none 0 0) 9 1 0 (([] : List (List UInt8)).map sv)] V11) := Lib.hid (S13.out.nilOwn 9 1)
  clear S13
  go_wp2_with fail
  go_loopw [3, 4, 5] (fun v3 v4 v5 wr => ∃ (A : Option Addr) (n c : Nat) (out : List (List UInt8)) (f i : Nat), v3 = .slice A n c ∧ v4 = .int .i64 (f : Int) ∧ v5 = .int .i64 (i : Int) ∧ Ma.WInv x out f i ∧ n ≤ i ∧ St w noB [own (.slice A n c) 9 1 n (out.map sv)] wr) (fun _ _ i _ => x.length + 1 - (intOf i).toNat)
  case atStart => exact ⟨none, 0, 0, [], 0, 0, rfl, rfl, rfl, Ma.winit x, Nat.le_refl _, S14.out⟩
  case round =>
    obtain ⟨A, n, c, out, f, i, rfl, rfl, rfl, hw_, hni, hS⟩ := hrel
    have HW_ := Lib.hid hw_
    clear hw_
    have SL := Lib.hid hS
    clear S14 hS
    have S15 := SL
    clear SL
    have hfi : i ≤ x.length → f ≤ i := Ma.wle HW_.out
    go_upto_region 4 with fail
    refine wpG_region_k (fun K hK => ?_)
    refine @wpG_p _ _ _ _ _ (some 6) (.int .i64 (i : Int)) _ _ rfl (by rfl) (fun _ => rfl) ?_
    simp only [n1, n3, n4]
    refine @wpG_p _ _ _ _ _ (some 7) (.string (bstr x)) _ _ rfl (by rfl) (fun _ => rfl) ?_
    simp only [n1, n3, n4]
    refine @wpG_p _ _ _ _ _ (some 8) (.int .i64 (x.length : Int)) _ _ rfl (by rfl) (fun W => op_str_len W x rfl rfl Tryd.underlying9) ?_
    simp only [n1, n3, n4]
    refine @wpG_p _ _ _ _ _ (some 9) (.bool (decide ((i : Int) ≤ (x.length : Int)))) _ _ rfl (by rfl) (fun W => op_int_leq W (i : Int) (x.length : Int) rfl rfl rfl Tryd.underlying3) ?_
    simp only [n1, n3, n4]
    refine wpG_done (fun V16 hv17 => ?_)
    have S18 : Hid (St w noB [own (.slice A n c) 9 1 n (out.map sv)] V16) := Lib.hid (S15.out.gr hv17)
    clear S15
    clear hv17
    refine ⟨rfl, hK _ _ ?_⟩
    clear hK
    obtain ⟨c19, hc19⟩ : ∃ q_, q_ = (decide ((i : Int) ≤ (x.length : Int))) := ⟨_, rfl⟩
    rw [← hc19]
    have Hc19 := Lib.hid hc19
    clear hc19
    cases c19 with
    | true =>
      have f20 := of_decide_eq_true Hc19.out.symm
      go_upto_region 6 with fail
      refine wpG_region_k (fun K hK => ?_)
      refine @wpG_p _ _ _ _ _ (some 12) (.int .i64 (i : Int)) _ _ rfl (by rfl) (fun _ => rfl) ?_
      simp only [n1, n3, n4]
      refine @wpG_p _ _ _ _ _ (some 13) (.string (bstr x)) _ _ rfl (by rfl) (fun _ => rfl) ?_
      simp only [n1, n3, n4]
      refine @wpG_p _ _ _ _ _ (some 14) (.int .i64 (x.length : Int)) _ _ rfl (by rfl) (fun W => op_str_len W x rfl rfl Tryd.underlying9) ?_
      simp only [n1, n3, n4]
      refine @wpG_p _ _ _ _ _ (some 15) (.bool (decide ((i : Int) = (x.length : Int)))) _ _ rfl (by rfl) (fun W => op_int_eql W (i : Int) (x.length : Int) rfl rfl rfl Tryd.underlying3) ?_
      simp only [n1, n3, n4]
      refine @wpG_p _ _ _ _ _ (some 16) (.bool (decide ((i : Int) = (x.length : Int)))) _ _ rfl (by rfl) (fun _ => rfl) ?_
      simp only [n1, n3, n4]
      obtain ⟨c21, hc21⟩ : ∃ q_, q_ = (decide ((i : Int) = (x.length : Int))) := ⟨_, rfl⟩
      rw [← hc21]
      have Hc21 := Lib.hid hc21
      clear hc21
      cases c21 with
      | true =>
        have f22 := Lib.hid (of_decide_eq_true Hc21.out.symm)
        have f22a := Int.le_of_eq f22.out
        have f22b := Int.le_of_eq f22.out.symm
        refine @wpG_no _ _ _ _ _ (some 17) _ _ rfl (by rfl) ?_
        simp only [n1, n3, n4]
        refine @wpG_no _ _ _ _ _ (some 18) _ _ rfl (by rfl) ?_
        simp only [n1, n3, n4]
        refine @wpG_no _ _ _ _ _ (some 19) _ _ rfl (by rfl) ?_
        simp only [n1, n3, n4]
        refine @wpG_no _ _ _ _ _ (some 20) _ _ rfl (by rfl) ?_
        simp only [n1, n3, n4]
        refine @wpG_p _ _ _ _ _ (some 21) (.bool true) _ _ rfl (by rfl) (fun W => by go_simp) ?_
        simp only [n1, n3, n4]
        refine wpG_done (fun V23 hv24 => ?_)
        have S25 : Hid (St w noB [own (.slice A n c) 9 1 n (out.map sv)] V23) := Lib.hid (S18.out.gr hv24)
        clear S18
        clear hv24
        refine ⟨rfl, hK _ _ ?_⟩
        clear hK
        go_upto_region 7 with fail
        refine wpG_region_k (fun K hK => ?_)
        refine @wpG_p _ _ _ _ _ (some 22) (.slice A n c) _ _ rfl (by rfl) (fun _ => rfl) ?_
        simp only [n1, n3, n4]
        refine @wpG_p _ _ _ _ _ (some 23) (.string (bstr x)) _ _ rfl (by rfl) (fun _ => rfl) ?_
        simp only [n1, n3, n4]
        refine @wpG_p _ _ _ _ _ (some 24) (.int .i64 (f : Int)) _ _ rfl (by rfl) (fun _ => rfl) ?_
        simp only [n1, n3, n4]
        refine @wpG_p _ _ _ _ _ (some 25) (.int .i64 (i : Int)) _ _ rfl (by rfl) (fun _ => rfl) ?_
        simp only [n1, n3, n4]
        refine @wpG_p _ _ _ _ _ (some 26) (.string (bstr ((x.take i).drop f))) _ _ rfl (by rfl) (fun W => op_str_slice W x f i (by omega) (by omega) rfl rfl rfl rfl Tryd.underlying9) ?_
        simp only [n1, n3, n4]
        refine wpG_val (some 27) rfl (by rfl) (fun W26 hg27 => ⟨.slice (some ⟨W26.heap.size, 0, none⟩) 1 1, W26.alloc (.cells #[.string (bstr ((x.take i).drop f))] 9), by (go_simp <;> rfl), ?_⟩)
        simp only [n1, n3, n4]
        obtain ⟨g28, U29, hg_, hu_, hS_⟩ := (S25.out.gr hg27).made [.string (bstr ((x.take i).drop f))] 9
        rw [← hu_, ← hg_]
        have S30 : Hid (St w noB [blk g28 9 [.string (bstr ((x.take i).drop f))], own (.slice A n c) 9 1 n (out.map sv)] U29) := Lib.hid hS_
        clear S25
        clear hg_ hu_ hS_ hg27
        have S31 : Hid (St w noB [own (.slice A n c) 9 1 n (out.map sv), blk g28 9 [.string (bstr ((x.take i).drop f))]] U29) := Lib.hid (S30.out.front 1 rfl)
        clear S30
        refine wpG_appS (some 28) rfl rfl (.tmp 22) (.tmp 27) 68 68 rfl 9 1 16 Tryd.underlying68 (by kernel_rfl) (.slice A n c) n (out.map sv) S31.out (.slice (some ⟨g28, 0, none⟩) 1 1) 1 [.string (bstr ((x.take i).drop f))] (fun W hg => src_lies Tryd.underlying68 1 rfl (fun h => by cases h) (by intro u hu; simp at hu; rcases hu with rfl <;> rfl) ((S31.out.gr hg).liesBlk 1 rfl)) rfl rfl (by simp only [maxLen]; omega) (by omega) (fun v32 W33 hS_ => ?_)
        simp only [n1, n3, n4]
        obtain ⟨A34, k35, rfl, hle_, hcap_, _⟩ := own_shape (hS_.ownr 0 rfl)
        have S36 : Hid (St w noB [own (.slice A34 (n + 1) k35) 9 1 (n + 1) (out.map sv ++ [.string (bstr ((x.take i).drop f))]), blk g28 9 [.string (bstr ((x.take i).drop f))]] W33) := Lib.hid hS_
        clear S31
        clear hS_
        refine @wpG_p _ _ _ _ _ (some 3) (.slice A34 (n + 1) k35) _ _ rfl (by rfl) (fun _ => rfl) ?_
        simp only [n1, n3, n4]
        refine wpG_done (fun V37 hv38 => ?_)
        have S39 : Hid (St w noB [own (.slice A34 (n + 1) k35) 9 1 (n + 1) (out.map sv ++ [.string (bstr ((x.take i).drop f))]), blk g28 9 [.string (bstr ((x.take i).drop f))]] V37) := Lib.hid (S36.out.gr hv38)
        clear S36
        clear hv38
        refine ⟨rfl, hK _ _ ?_⟩
        clear hK
        go_upto_region 8 with fail
        refine wpG_region_k (fun K hK => ?_)
        refine @wpG_p _ _ _ _ _ (some 29) (.int .i64 (i : Int)) _ _ rfl (by rfl) (fun _ => rfl) ?_
        simp only [n1, n3, n4]
        refine @wpG_p _ _ _ _ _ (some 30) (.int .i64 ((i : Int) + 1)) _ _ rfl (by rfl) (fun W => op_i_add W (i : Int) 1 (by omega) rfl rfl rfl Tryd.underlying3) ?_
        simp only [n1, n3, n4]
        refine @wpG_p _ _ _ _ _ (some 4) (.int .i64 ((i : Int) + 1)) _ _ rfl (by rfl) (fun _ => rfl) ?_
        simp only [n1, n3, n4]
        refine wpG_done (fun V40 hv41 => ?_)
        have S42 : Hid (St w noB [own (.slice A34 (n + 1) k35) 9 1 (n + 1) (out.map sv ++ [.string (bstr ((x.take i).drop f))]), blk g28 9 [.string (bstr ((x.take i).drop f))]] V40) := Lib.hid (S39.out.gr hv41)
        clear S39
        clear hv41
        refine ⟨rfl, hK _ _ ?_⟩
        clear hK
        go_upto_region 5 with fail
        refine wpG_region_k (fun K hK => ?_)
        refine @wpG_p _ _ _ _ _ (some 10) (.int .i64 (i : Int)) _ _ rfl (by rfl) (fun _ => rfl) ?_
        simp only [n1, n3, n4]
        refine @wpG_p _ _ _ _ _ (some 11) (.int .i64 ((i : Int) + 1)) _ _ rfl (by rfl) (fun W => op_i_add W (i : Int) 1 (by omega) rfl rfl rfl Tryd.underlying3) ?_
        simp only [n1, n3, n4]
        refine @wpG_p _ _ _ _ _ (some 5) (.int .i64 ((i : Int) + 1)) _ _ rfl (by rfl) (fun _ => rfl) ?_
        simp only [n1, n3, n4]
        refine wpG_done (fun V43 hv44 => ?_)
        have S45 : Hid (St w noB [own (.slice A34 (n + 1) k35) 9 1 (n + 1) (out.map sv ++ [.string (bstr ((x.take i).drop f))]), blk g28 9 [.string (bstr ((x.take i).drop f))]] V43) := Lib.hid (S42.out.gr hv44)
        clear S42
        clear hv44
        refine ⟨rfl, hK _ _ ?_⟩
        clear hK
        go_wp2_with fail
        go_roundw
        have S46 : Hid (St w noB [own (.slice A34 (n + 1) k35) 9 1 (n + 1) (out.map sv ++ [.string (bstr ((x.take i).drop f))])] V43) := Lib.hid (S45.out.sub (.cons_cons _ (.cons _ .slnil)))
        clear S45
        case rel => exact ⟨A34, n + 1, k35, out ++ [((x.take i).drop f)], i + 1, i + 1, (by first | rfl | go_num), (by first | rfl | go_num), (by first | rfl | go_num), (by have e_f22 := f22.out; exact Ma.wstep_end HW_.out (by omega)), (by omega), (by rw [List.map_append]; exact S46.out)⟩
        case measure => first | (simp [intOf]; done) | (simp [intOf]; omega) | omega
      | false =>
        have f47 := of_decide_eq_false Hc21.out.symm
        refine @wpG_p _ _ _ _ _ (some 17) (.string (bstr x)) _ _ rfl (by rfl) (fun _ => rfl) ?_
        simp only [n1, n3, n4]
        refine @wpG_p _ _ _ _ _ (some 18) (.int .i64 (i : Int)) _ _ rfl (by rfl) (fun _ => rfl) ?_
        simp only [n1, n3, n4]
        refine @wpG_p _ _ _ _ _ (some 19) (.int .u8 ((Ma.byt x i).toNat : Int)) _ _ rfl (by rfl) (fun W => op_str_idx W x i (by omega) rfl rfl rfl Tryd.underlying9) ?_
        simp only [n1, n3, n4]
        refine @wpG_p _ _ _ _ _ (some 20) (.bool (decide (((Ma.byt x i).toNat : Int) = 32))) _ _ rfl (by rfl) (fun W => op_int_eql W ((Ma.byt x i).toNat : Int) 32 rfl rfl rfl Tryd.underlying5) ?_
        simp only [n1, n3, n4]
        refine @wpG_p _ _ _ _ _ (some 21) (.bool (decide (((Ma.byt x i).toNat : Int) = 32))) _ _ rfl (by rfl) (fun W => by go_simp) ?_
        simp only [n1, n3, n4]
        refine wpG_done (fun V48 hv49 => ?_)
        have S50 : Hid (St w noB [own (.slice A n c) 9 1 n (out.map sv)] V48) := Lib.hid (S18.out.gr hv49)
        clear S18
        clear hv49
        refine ⟨rfl, hK _ _ ?_⟩
        clear hK
        obtain ⟨c51, hc51⟩ : ∃ q_, q_ = (decide (((Ma.byt x i).toNat : Int) = 32)) := ⟨_, rfl⟩
        rw [← hc51]
        have Hc51 := Lib.hid hc51
        clear hc51
        cases c51 with
        | true =>
          have f52 := Lib.hid (of_decide_eq_true Hc51.out.symm)
          have f52a := Int.le_of_eq f52.out
          have f52b := Int.le_of_eq f52.out.symm
          go_upto_region 7 with fail
          refine wpG_region_k (fun K hK => ?_)
          refine @wpG_p _ _ _ _ _ (some 22) (.slice A n c) _ _ rfl (by rfl) (fun _ => rfl) ?_
          simp only [n1, n3, n4]
          refine @wpG_p _ _ _ _ _ (some 23) (.string (bstr x)) _ _ rfl (by rfl) (fun _ => rfl) ?_
          simp only [n1, n3, n4]
          refine @wpG_p _ _ _ _ _ (some 24) (.int .i64 (f : Int)) _ _ rfl (by rfl) (fun _ => rfl) ?_
          simp only [n1, n3, n4]
          refine @wpG_p _ _ _ _ _ (some 25) (.int .i64 (i : Int)) _ _ rfl (by rfl) (fun _ => rfl) ?_
          simp only [n1, n3, n4]
          refine @wpG_p _ _ _ _ _ (some 26) (.string (bstr ((x.take i).drop f))) _ _ rfl (by rfl) (fun W => op_str_slice W x f i (by omega) (by omega) rfl rfl rfl rfl Tryd.underlying9) ?_
          simp only [n1, n3, n4]
          refine wpG_val (some 27) rfl (by rfl) (fun W53 hg54 => ⟨.slice (some ⟨W53.heap.size, 0, none⟩) 1 1, W53.alloc (.cells #[.string (bstr ((x.take i).drop f))] 9), by (go_simp <;> rfl), ?_⟩)
          simp only [n1, n3, n4]
          obtain ⟨g55, U56, hg_, hu_, hS_⟩ := (S50.out.gr hg54).made [.string (bstr ((x.take i).drop f))] 9
          rw [← hu_, ← hg_]
          have S57 : Hid (St w noB [blk g55 9 [.string (bstr ((x.take i).drop f))], own (.slice A n c) 9 1 n (out.map sv)] U56) := Lib.hid hS_
          clear S50
          clear hg_ hu_ hS_ hg54
          have S58 : Hid (St w noB [own (.slice A n c) 9 1 n (out.map sv), blk g55 9 [.string (bstr ((x.take i).drop f))]] U56) := Lib.hid (S57.out.front 1 rfl)
          clear S57
          refine wpG_appS (some 28) rfl rfl (.tmp 22) (.tmp 27) 68 68 rfl 9 1 16 Tryd.underlying68 (by kernel_rfl) (.slice A n c) n (out.map sv) S58.out (.slice (some ⟨g55, 0, none⟩) 1 1) 1 [.string (bstr ((x.take i).drop f))] (fun W hg => src_lies Tryd.underlying68 1 rfl (fun h => by cases h) (by intro u hu; simp at hu; rcases hu with rfl <;> rfl) ((S58.out.gr hg).liesBlk 1 rfl)) rfl rfl (by simp only [maxLen]; omega) (by omega) (fun v59 W60 hS_ => ?_)
          simp only [n1, n3, n4]
          obtain ⟨A61, k62, rfl, hle_, hcap_, _⟩ := own_shape (hS_.ownr 0 rfl)
          have S63 : Hid (St w noB [own (.slice A61 (n + 1) k62) 9 1 (n + 1) (out.map sv ++ [.string (bstr ((x.take i).drop f))]), blk g55 9 [.string (bstr ((x.take i).drop f))]] W60) := Lib.hid hS_
          clear S58
          clear hS_
          refine @wpG_p _ _ _ _ _ (some 3) (.slice A61 (n + 1) k62) _ _ rfl (by rfl) (fun _ => rfl) ?_
          simp only [n1, n3, n4]
          refine wpG_done (fun V64 hv65 => ?_)
          have S66 : Hid (St w noB [own (.slice A61 (n + 1) k62) 9 1 (n + 1) (out.map sv ++ [.string (bstr ((x.take i).drop f))]), blk g55 9 [.string (bstr ((x.take i).drop f))]] V64) := Lib.hid (S63.out.gr hv65)
          clear S63
          clear hv65
          refine ⟨rfl, hK _ _ ?_⟩
          clear hK
          go_upto_region 8 with fail
          refine wpG_region_k (fun K hK => ?_)
          refine @wpG_p _ _ _ _ _ (some 29) (.int .i64 (i : Int)) _ _ rfl (by rfl) (fun _ => rfl) ?_
          simp only [n1, n3, n4]
          refine @wpG_p _ _ _ _ _ (some 30) (.int .i64 ((i : Int) + 1)) _ _ rfl (by rfl) (fun W => op_i_add W (i : Int) 1 (by omega) rfl rfl rfl Tryd.underlying3) ?_
          simp only [n1, n3, n4]
          refine @wpG_p _ _ _ _ _ (some 4) (.int .i64 ((i : Int) + 1)) _ _ rfl (by rfl) (fun _ => rfl) ?_
          simp only [n1, n3, n4]
          refine wpG_done (fun V67 hv68 => ?_)
          have S69 : Hid (St w noB [own (.slice A61 (n + 1) k62) 9 1 (n + 1) (out.map sv ++ [.string (bstr ((x.take i).drop f))]), blk g55 9 [.string (bstr ((x.take i).drop f))]] V67) := Lib.hid (S66.out.gr hv68)
          clear S66
          clear hv68
          refine ⟨rfl, hK _ _ ?_⟩
          clear hK
          go_upto_region 5 with fail
          refine wpG_region_k (fun K hK => ?_)
          refine @wpG_p _ _ _ _ _ (some 10) (.int .i64 (i : Int)) _ _ rfl (by rfl) (fun _ => rfl) ?_
          simp only [n1, n3, n4]
          refine @wpG_p _ _ _ _ _ (some 11) (.int .i64 ((i : Int) + 1)) _ _ rfl (by rfl) (fun W => op_i_add W (i : Int) 1 (by omega) rfl rfl rfl Tryd.underlying3) ?_
          simp only [n1, n3, n4]
          refine @wpG_p _ _ _ _ _ (some 5) (.int .i64 ((i : Int) + 1)) _ _ rfl (by rfl) (fun _ => rfl) ?_
          simp only [n1, n3, n4]
          refine wpG_done (fun V70 hv71 => ?_)
          have S72 : Hid (St w noB [own (.slice A61 (n + 1) k62) 9 1 (n + 1) (out.map sv ++ [.string (bstr ((x.take i).drop f))]), blk g55 9 [.string (bstr ((x.take i).drop f))]] V70) := Lib.hid (S69.out.gr hv71)
          clear S69
          clear hv71
          refine ⟨rfl, hK _ _ ?_⟩
          clear hK
          go_wp2_with fail
          go_roundw
          have S73 : Hid (St w noB [own (.slice A61 (n + 1) k62) 9 1 (n + 1) (out.map sv ++ [.string (bstr ((x.take i).drop f))])] V70) := Lib.hid (S72.out.sub (.cons_cons _ (.cons _ .slnil)))
          clear S72
          case rel => exact ⟨A61, n + 1, k62, out ++ [((x.take i).drop f)], i + 1, i + 1, (by first | rfl | go_num), (by first | rfl | go_num), (by first | rfl | go_num), (by have e_f52 := f52.out; exact Ma.wstep_blank HW_.out (by omega) (Ma.is32.1 e_f52)), (by omega), (by rw [List.map_append]; exact S73.out)⟩
          case measure => first | (simp [intOf]; done) | (simp [intOf]; omega) | omega
        | false =>
          have f74 := of_decide_eq_false Hc51.out.symm
          go_upto_region 5 with fail
          refine wpG_region_k (fun K hK => ?_)
          refine @wpG_p _ _ _ _ _ (some 10) (.int .i64 (i : Int)) _ _ rfl (by rfl) (fun _ => rfl) ?_
          simp only [n1, n3, n4]
          refine @wpG_p _ _ _ _ _ (some 11) (.int .i64 ((i : Int) + 1)) _ _ rfl (by rfl) (fun W => op_i_add W (i : Int) 1 (by omega) rfl rfl rfl Tryd.underlying3) ?_
          simp only [n1, n3, n4]
          refine @wpG_p _ _ _ _ _ (some 5) (.int .i64 ((i : Int) + 1)) _ _ rfl (by rfl) (fun _ => rfl) ?_
          simp only [n1, n3, n4]
          refine wpG_done (fun V75 hv76 => ?_)
          have S77 : Hid (St w noB [own (.slice A n c) 9 1 n (out.map sv)] V75) := Lib.hid (S50.out.gr hv76)
          clear S50
          clear hv76
          refine ⟨rfl, hK _ _ ?_⟩
          clear hK
          go_wp2_with fail
          go_roundw
          case rel => exact ⟨A, n, c, out, f, i + 1, (by first | rfl | go_num), (by first | rfl | go_num), (by first | rfl | go_num), (by exact Ma.wstep_no HW_.out (by omega) (fun h => by have h1 := Ma.is32.2 h; omega)), (by omega), S77.out⟩
          case measure => first | (simp [intOf]; done) | (simp [intOf]; omega) | omega
    | false =>
      have f78 := of_decide_eq_false Hc19.out.symm
      go_upto_region 9 with fail
      refine wpG_region_k (fun K hK => ?_)
      refine @wpG_p _ _ _ _ _ (some 31) (.slice A n c) _ _ rfl (by rfl) (fun _ => rfl) ?_
      simp only [n1, n3, n4]
      refine @wpG_p _ _ _ _ _ (some 2) (.slice A n c) _ _ rfl (by rfl) (fun _ => rfl) ?_
      simp only [n1, n3, n4]
      refine wpG_done (fun V79 hv80 => ?_)
      have S81 : Hid (St w noB [own (.slice A n c) 9 1 n (out.map sv)] V79) := Lib.hid (S18.out.gr hv80)
      clear S18
      clear hv80
      refine ⟨rfl, hK _ _ ?_⟩
      clear hK
      go_wp2_with fail
      go_ret
      refine ⟨A, n, c, rfl, ?_⟩
      have e0 := Ma.wdone HW_.out (by omega)
      rw [← e0]
      exact S81.out
set_option maxRecDepth 1000000 in
set_option maxHeartbeats 4000000 in
theorem number_any (x : List UInt8) (w : World) :
    Calls Tryd.prog 57 #[.string (bstr x)] w fun e w' => e = .returned (.int .i64 (Ma.nr x)) ∧ Below w.heap.size w w' := by
  have S1 : Hid (St w noB [] w) := Lib.hid (St.start w)
  go_enter Tryd.func57, Tryd.ntmps57
  go_upto_region 0 with fail
  refine wpG_region_k (fun K hK => ?_)
  refine @wpG_p _ _ _ _ _ (some 2) (.int .i64 0) _ _ rfl (by rfl) (fun _ => rfl) ?_
  simp only [n1, n3, n4]
  refine wpG_done (fun V2 hv3 => ?_)
  have S4 : Hid (St w noB [] V2) := Lib.hid (S1.out.gr hv3)
  clear S1
  clear hv3
  refine ⟨rfl, hK _ _ ?_⟩
  clear hK
  go_upto_region 1 with fail
  refine wpG_region_k (fun K hK => ?_)
  refine @wpG_p _ _ _ _ _ (some 5) (.string (bstr x)) _ _ rfl (by rfl) (fun _ => rfl) ?_
  simp only [n1, n3, n4]
  refine @wpG_p _ _ _ _ _ (some 6) (.int .i64 (x.length : Int)) _ _ rfl (by rfl) (fun W => op_str_len W x rfl rfl Tryd.underlying9) ?_
  simp only [n1, n3, n4]
  refine @wpG_p _ _ _ _ _ (some 7) (.bool (decide ((x.length : Int) < 1))) _ _ rfl (by rfl) (fun W => op_int_lss W (x.length : Int) 1 rfl rfl rfl Tryd.underlying3) ?_
  simp only [n1, n3, n4]
  refine @wpG_p _ _ _ _ _ (some 8) (.bool (decide ((x.length : Int) < 1))) _ _ rfl (by rfl) (fun _ => rfl) ?_
  simp only [n1, n3, n4]
  obtain ⟨c5, hc5⟩ : ∃ q_, q_ = (decide ((x.length : Int) < 1)) := ⟨_, rfl⟩
  rw [← hc5]
  have Hc5 := Lib.hid hc5
  clear hc5
  cases c5 with
  | true =>
    have f6 := of_decide_eq_true Hc5.out.symm
    refine @wpG_no _ _ _ _ _ (some 9) _ _ rfl (by rfl) ?_
    simp only [n1, n3, n4]
    refine @wpG_no _ _ _ _ _ (some 10) _ _ rfl (by rfl) ?_
    simp only [n1, n3, n4]
    refine @wpG_no _ _ _ _ _ (some 11) _ _ rfl (by rfl) ?_
    simp only [n1, n3, n4]
    refine @wpG_p _ _ _ _ _ (some 12) (.bool true) _ _ rfl (by rfl) (fun W => by go_simp) ?_
    simp only [n1, n3, n4]
    refine @wpG_p _ _ _ _ _ (some 13) (.bool true) _ _ rfl (by rfl) (fun _ => rfl) ?_
    simp only [n1, n3, n4]
    refine @wpG_no _ _ _ _ _ (some 14) _ _ rfl (by rfl) ?_
    simp only [n1, n3, n4]
    refine @wpG_no _ _ _ _ _ (some 15) _ _ rfl (by rfl) ?_
    simp only [n1, n3, n4]
    refine @wpG_no _ _ _ _ _ (some 16) _ _ rfl (by rfl) ?_
    simp only [n1, n3, n4]
    refine @wpG_no _ _ _ _ _ (some 17) _ _ rfl (by rfl) ?_
    simp only [n1, n3, n4]
    refine @wpG_no _ _ _ _ _ (some 18) _ _ rfl (by rfl) ?_
    simp only [n1, n3, n4]
    refine @wpG_no _ _ _ _ _ (some 19) _ _ rfl (by rfl) ?_
    simp only [n1, n3, n4]
    refine @wpG_no _ _ _ _ _ (some 20) _ _ rfl (by rfl) ?_
    simp only [n1, n3, n4]
    refine @wpG_no _ _ _ _ _ (some 21) _ _ rfl (by rfl) ?_
    simp only [n1, n3, n4]
    refine @wpG_p _ _ _ _ _ (some 22) (.bool true) _ _ rfl (by rfl) (fun W => by go_simp) ?_
    simp only [n1, n3, n4]
    refine wpG_done (fun V7 hv8 => ?_)
    have S9 : Hid (St w noB [] V7) := Lib.hid (S4.out.gr hv8)
    clear S4
    clear hv8
    refine ⟨rfl, hK _ _ ?_⟩
    clear hK
    go_upto_region 2 with fail
    refine wpG_region_k (fun K hK => ?_)
    refine @wpG_p _ _ _ _ _ (some 2) (.int .i64 (-1)) _ _ rfl (by rfl) (fun _ => rfl) ?_
    simp only [n1, n3, n4]
    refine wpG_done (fun V10 hv11 => ?_)
    have S12 : Hid (St w noB [] V10) := Lib.hid (S9.out.gr hv11)
    clear S9
    clear hv11
    refine ⟨rfl, hK _ _ ?_⟩
    clear hK
    go_wp2_with fail
    go_ret
    refine ⟨?_, S12.out.bel⟩
    show Ending.returned (.int .i64 (-1)) = _
    (first | rfl | (first | rw [Ma.nr_none (Ma.num_empty (w := x) (by omega))] | rw [Ma.nr_none (Ma.num_long (w := x) (by omega))] | rw [Ma.nr_none (Ma.num_zero (w := x) (by omega) (Ma.is48.1 (by omega)))]))
  | false =>
    have f13 := of_decide_eq_false Hc5.out.symm
    refine @wpG_p _ _ _ _ _ (some 9) (.string (bstr x)) _ _ rfl (by rfl) (fun _ => rfl) ?_
    simp only [n1, n3, n4]
    refine @wpG_p _ _ _ _ _ (some 10) (.int .i64 (x.length : Int)) _ _ rfl (by rfl) (fun W => op_str_len W x rfl rfl Tryd.underlying9) ?_
    simp only [n1, n3, n4]
    refine @wpG_p _ _ _ _ _ (some 11) (.bool (decide ((x.length : Int) > 3))) _ _ rfl (by rfl) (fun W => op_int_gtr W (x.length : Int) 3 rfl rfl rfl Tryd.underlying3) ?_
    simp only [n1, n3, n4]
    refine @wpG_p _ _ _ _ _ (some 12) (.bool (decide ((x.length : Int) > 3))) _ _ rfl (by rfl) (fun W => by go_simp) ?_
    simp only [n1, n3, n4]
    refine @wpG_p _ _ _ _ _ (some 13) (.bool (decide ((x.length : Int) > 3))) _ _ rfl (by rfl) (fun _ => rfl) ?_
    simp only [n1, n3, n4]
    obtain ⟨c14, hc14⟩ : ∃ q_, q_ = (decide ((x.length : Int) > 3)) := ⟨_, rfl⟩
    rw [← hc14]
    have Hc14 := Lib.hid hc14
    clear hc14
    cases c14 with
    | true =>
      have f15 := of_decide_eq_true Hc14.out.symm
      refine @wpG_no _ _ _ _ _ (some 14) _ _ rfl (by rfl) ?_
      simp only [n1, n3, n4]
      refine @wpG_no _ _ _ _ _ (some 15) _ _ rfl (by rfl) ?_
      simp only [n1, n3, n4]
      refine @wpG_no _ _ _ _ _ (some 16) _ _ rfl (by rfl) ?_
      simp only [n1, n3, n4]
      refine @wpG_no _ _ _ _ _ (some 17) _ _ rfl (by rfl) ?_
      simp only [n1, n3, n4]
      refine @wpG_no _ _ _ _ _ (some 18) _ _ rfl (by rfl) ?_
      simp only [n1, n3, n4]
      refine @wpG_no _ _ _ _ _ (some 19) _ _ rfl (by rfl) ?_
      simp only [n1, n3, n4]
      refine @wpG_no _ _ _ _ _ (some 20) _ _ rfl (by rfl) ?_
      simp only [n1, n3, n4]
      refine @wpG_no _ _ _ _ _ (some 21) _ _ rfl (by rfl) ?_
      simp only [n1, n3, n4]
      refine @wpG_p _ _ _ _ _ (some 22) (.bool true) _ _ rfl (by rfl) (fun W => by go_simp) ?_
      simp only [n1, n3, n4]
      refine wpG_done (fun V16 hv17 => ?_)
      have S18 : Hid (St w noB [] V16) := Lib.hid (S4.out.gr hv17)
      clear S4
      clear hv17
      refine ⟨rfl, hK _ _ ?_⟩
      clear hK
      go_upto_region 2 with fail
      refine wpG_region_k (fun K hK => ?_)
      refine @wpG_p _ _ _ _ _ (some 2) (.int .i64 (-1)) _ _ rfl (by rfl) (fun _ => rfl) ?_
      simp only [n1, n3, n4]
      refine wpG_done (fun V19 hv20 => ?_)
      have S21 : Hid (St w noB [] V19) := Lib.hid (S18.out.gr hv20)
      clear S18
      clear hv20
      refine ⟨rfl, hK _ _ ?_⟩
      clear hK
      go_wp2_with fail
      go_ret
      refine ⟨?_, S21.out.bel⟩
      show Ending.returned (.int .i64 (-1)) = _
      (first | rfl | (first | rw [Ma.nr_none (Ma.num_empty (w := x) (by omega))] | rw [Ma.nr_none (Ma.num_long (w := x) (by omega))] | rw [Ma.nr_none (Ma.num_zero (w := x) (by omega) (Ma.is48.1 (by omega)))]))
    | false =>
      have f22 := of_decide_eq_false Hc14.out.symm
      refine @wpG_p _ _ _ _ _ (some 14) (.string (bstr x)) _ _ rfl (by rfl) (fun _ => rfl) ?_
      simp only [n1, n3, n4]
      refine @wpG_p _ _ _ _ _ (some 15) (.int .i64 (x.length : Int)) _ _ rfl (by rfl) (fun W => op_str_len W x rfl rfl Tryd.underlying9) ?_
      simp only [n1, n3, n4]
      refine @wpG_p _ _ _ _ _ (some 16) (.bool (decide ((x.length : Int) > 1))) _ _ rfl (by rfl) (fun W => op_int_gtr W (x.length : Int) 1 rfl rfl rfl Tryd.underlying3) ?_
      simp only [n1, n3, n4]
      refine @wpG_p _ _ _ _ _ (some 17) (.bool (decide ((x.length : Int) > 1))) _ _ rfl (by rfl) (fun _ => rfl) ?_
      simp only [n1, n3, n4]
      obtain ⟨c23, hc23⟩ : ∃ q_, q_ = (decide ((x.length : Int) > 1)) := ⟨_, rfl⟩
      rw [← hc23]
      have Hc23 := Lib.hid hc23
      clear hc23
      cases c23 with
      | true =>
        have f24 := of_decide_eq_true Hc23.out.symm
        refine @wpG_p _ _ _ _ _ (some 18) (.string (bstr x)) _ _ rfl (by rfl) (fun _ => rfl) ?_
        simp only [n1, n3, n4]
        refine @wpG_p _ _ _ _ _ (some 19) (.int .u8 ((Ma.byt x 0).toNat : Int)) _ _ rfl (by rfl) (fun W => op_str_idx W x 0 (by omega) rfl rfl rfl Tryd.underlying9) ?_
        simp only [n1, n3, n4]
        refine @wpG_p _ _ _ _ _ (some 20) (.bool (decide (((Ma.byt x 0).toNat : Int) = 48))) _ _ rfl (by rfl) (fun W => op_int_eql W ((Ma.byt x 0).toNat : Int) 48 rfl rfl rfl Tryd.underlying5) ?_
        simp only [n1, n3, n4]
        refine @wpG_p _ _ _ _ _ (some 21) (.bool (decide (((Ma.byt x 0).toNat : Int) = 48))) _ _ rfl (by rfl) (fun W => by go_simp) ?_
        simp only [n1, n3, n4]
        refine @wpG_p _ _ _ _ _ (some 22) (.bool (decide (((Ma.byt x 0).toNat : Int) = 48))) _ _ rfl (by rfl) (fun W => by go_simp) ?_
        simp only [n1, n3, n4]
        refine wpG_done (fun V25 hv26 => ?_)
        have S27 : Hid (St w noB [] V25) := Lib.hid (S4.out.gr hv26)
        clear S4
        clear hv26
        refine ⟨rfl, hK _ _ ?_⟩
        clear hK
        obtain ⟨c28, hc28⟩ : ∃ q_, q_ = (decide (((Ma.byt x 0).toNat : Int) = 48)) := ⟨_, rfl⟩
        rw [← hc28]
        have Hc28 := Lib.hid hc28
        clear hc28
        cases c28 with
        | true =>
          have f29 := Lib.hid (of_decide_eq_true Hc28.out.symm)
          have f29a := Int.le_of_eq f29.out
          have f29b := Int.le_of_eq f29.out.symm
          go_upto_region 2 with fail
          refine wpG_region_k (fun K hK => ?_)
          refine @wpG_p _ _ _ _ _ (some 2) (.int .i64 (-1)) _ _ rfl (by rfl) (fun _ => rfl) ?_
          simp only [n1, n3, n4]
          refine wpG_done (fun V30 hv31 => ?_)
          have S32 : Hid (St w noB [] V30) := Lib.hid (S27.out.gr hv31)
          clear S27
          clear hv31
          refine ⟨rfl, hK _ _ ?_⟩
          clear hK
          go_wp2_with fail
          go_ret
          refine ⟨?_, S32.out.bel⟩
          show Ending.returned (.int .i64 (-1)) = _
          (first | rfl | (have e_f29 := f29.out; first | rw [Ma.nr_none (Ma.num_empty (w := x) (by omega))] | rw [Ma.nr_none (Ma.num_long (w := x) (by omega))] | rw [Ma.nr_none (Ma.num_zero (w := x) (by omega) (Ma.is48.1 (by omega)))]))
        | false =>
          have f33 := of_decide_eq_false Hc28.out.symm
          go_upto_region 3 with fail
          refine wpG_region_k (fun K hK => ?_)
          refine @wpG_p _ _ _ _ _ (some 3) (.int .i64 0) _ _ rfl (by rfl) (fun _ => rfl) ?_
          simp only [n1, n3, n4]
          refine wpG_done (fun V34 hv35 => ?_)
          have S36 : Hid (St w noB [] V34) := Lib.hid (S27.out.gr hv35)
          clear S27
          clear hv35
          refine ⟨rfl, hK _ _ ?_⟩
          clear hK
          go_upto_region 4 with fail
          refine wpG_region_k (fun K hK => ?_)
          refine @wpG_p _ _ _ _ _ (some 4) (.int .i64 0) _ _ rfl (by rfl) (fun _ => rfl) ?_
          simp only [n1, n3, n4]
          refine wpG_done (fun V37 hv38 => ?_)
          have S39 : Hid (St w noB [] V37) := Lib.hid (S36.out.gr hv38)
          clear S36
          clear hv38
          refine ⟨rfl, hK _ _ ?_⟩
          clear hK
          go_wp2_with fail
          go_loopw [3, 4] (fun v3 v4 wr => ∃ (k n : Nat), v3 = .int .i64 (n : Int) ∧ v4 = .int .i64 (k : Int) ∧ Ma.NInv x k n ∧ k ≤ x.length ∧ St w noB [] wr) (fun _ k _ => x.length - (intOf k).toNat)
          case atStart => exact ⟨0, 0, rfl, rfl, Ma.ninit x, Nat.zero_le _, S39.out⟩
          case round =>
            obtain ⟨k, n, rfl, rfl, hn_, hkl, hS⟩ := hrel
            have HN_ := Lib.hid hn_
            clear hn_
            have SL := Lib.hid hS
            clear S39 hS
            have S40 := SL
            clear SL
            have hn1 := Ma.nlt HN_.out (by omega)
            go_upto_region 5 with fail
            refine wpG_region_k (fun K hK => ?_)
            refine @wpG_p _ _ _ _ _ (some 23) (.int .i64 (k : Int)) _ _ rfl (by rfl) (fun _ => rfl) ?_
            simp only [n1, n3, n4]
            refine @wpG_p _ _ _ _ _ (some 24) (.string (bstr x)) _ _ rfl (by rfl) (fun _ => rfl) ?_
            simp only [n1, n3, n4]
            refine @wpG_p _ _ _ _ _ (some 25) (.int .i64 (x.length : Int)) _ _ rfl (by rfl) (fun W => op_str_len W x rfl rfl Tryd.underlying9) ?_
            simp only [n1, n3, n4]
            refine @wpG_p _ _ _ _ _ (some 26) (.bool (decide ((k : Int) < (x.length : Int)))) _ _ rfl (by rfl) (fun W => op_int_lss W (k : Int) (x.length : Int) rfl rfl rfl Tryd.underlying3) ?_
            simp only [n1, n3, n4]
            refine wpG_done (fun V41 hv42 => ?_)
            have S43 : Hid (St w noB [] V41) := Lib.hid (S40.out.gr hv42)
            clear S40
            clear hv42
            refine ⟨rfl, hK _ _ ?_⟩
            clear hK
            obtain ⟨c44, hc44⟩ : ∃ q_, q_ = (decide ((k : Int) < (x.length : Int))) := ⟨_, rfl⟩
            rw [← hc44]
            have Hc44 := Lib.hid hc44
            clear hc44
            cases c44 with
            | true =>
              have f45 := of_decide_eq_true Hc44.out.symm
              go_upto_region 7 with fail
              refine wpG_region_k (fun K hK => ?_)
              refine @wpG_p _ _ _ _ _ (some 29) (.string (bstr x)) _ _ rfl (by rfl) (fun _ => rfl) ?_
              simp only [n1, n3, n4]
              refine @wpG_p _ _ _ _ _ (some 30) (.int .i64 (k : Int)) _ _ rfl (by rfl) (fun _ => rfl) ?_
              simp only [n1, n3, n4]
              refine @wpG_p _ _ _ _ _ (some 31) (.int .u8 ((Ma.byt x k).toNat : Int)) _ _ rfl (by rfl) (fun W => op_str_idx W x k (by omega) rfl rfl rfl Tryd.underlying9) ?_
              simp only [n1, n3, n4]
              refine @wpG_p _ _ _ _ _ (some 32) (.bool (decide (((Ma.byt x k).toNat : Int) < 48))) _ _ rfl (by rfl) (fun W => op_int_lss W ((Ma.byt x k).toNat : Int) 48 rfl rfl rfl Tryd.underlying5) ?_
              simp only [n1, n3, n4]
              refine @wpG_p _ _ _ _ _ (some 33) (.bool (decide (((Ma.byt x k).toNat : Int) < 48))) _ _ rfl (by rfl) (fun _ => rfl) ?_
              simp only [n1, n3, n4]
              obtain ⟨c46, hc46⟩ : ∃ q_, q_ = (decide (((Ma.byt x k).toNat : Int) < 48)) := ⟨_, rfl⟩
              rw [← hc46]
              have Hc46 := Lib.hid hc46
              clear hc46
              cases c46 with
              | true =>
                have f47 := of_decide_eq_true Hc46.out.symm
                refine @wpG_no _ _ _ _ _ (some 34) _ _ rfl (by rfl) ?_
                simp only [n1, n3, n4]
                refine @wpG_no _ _ _ _ _ (some 35) _ _ rfl (by rfl) ?_
                simp only [n1, n3, n4]
                refine @wpG_no _ _ _ _ _ (some 36) _ _ rfl (by rfl) ?_
                simp only [n1, n3, n4]
                refine @wpG_no _ _ _ _ _ (some 37) _ _ rfl (by rfl) ?_
                simp only [n1, n3, n4]
                refine @wpG_p _ _ _ _ _ (some 38) (.bool true) _ _ rfl (by rfl) (fun W => by go_simp) ?_
                simp only [n1, n3, n4]
                refine wpG_done (fun V48 hv49 => ?_)
                have S50 : Hid (St w noB [] V48) := Lib.hid (S43.out.gr hv49)
                clear S43
                clear hv49
                refine ⟨rfl, hK _ _ ?_⟩
                clear hK
                go_upto_region 8 with fail
                refine wpG_region_k (fun K hK => ?_)
                refine @wpG_p _ _ _ _ _ (some 2) (.int .i64 (-1)) _ _ rfl (by rfl) (fun _ => rfl) ?_
                simp only [n1, n3, n4]
                refine wpG_done (fun V51 hv52 => ?_)
                have S53 : Hid (St w noB [] V51) := Lib.hid (S50.out.gr hv52)
                clear S50
                clear hv52
                refine ⟨rfl, hK _ _ ?_⟩
                clear hK
                go_wp2_with fail
                go_ret
                refine ⟨?_, S53.out.bel⟩
                show Ending.returned (.int .i64 (-1)) = _
                (first | rfl | (rw [Ma.nr_none (Ma.num_bad (w := x) (k := k) (by omega) (by omega))]))
              | false =>
                have f54 := of_decide_eq_false Hc46.out.symm
                refine @wpG_p _ _ _ _ _ (some 34) (.string (bstr x)) _ _ rfl (by rfl) (fun _ => rfl) ?_
                simp only [n1, n3, n4]
                refine @wpG_p _ _ _ _ _ (some 35) (.int .i64 (k : Int)) _ _ rfl (by rfl) (fun _ => rfl) ?_
                simp only [n1, n3, n4]
                refine @wpG_p _ _ _ _ _ (some 36) (.int .u8 ((Ma.byt x k).toNat : Int)) _ _ rfl (by rfl) (fun W => op_str_idx W x k (by omega) rfl rfl rfl Tryd.underlying9) ?_
                simp only [n1, n3, n4]
                refine @wpG_p _ _ _ _ _ (some 37) (.bool (decide (((Ma.byt x k).toNat : Int) > 57))) _ _ rfl (by rfl) (fun W => op_int_gtr W ((Ma.byt x k).toNat : Int) 57 rfl rfl rfl Tryd.underlying5) ?_
                simp only [n1, n3, n4]
                refine @wpG_p _ _ _ _ _ (some 38) (.bool (decide (((Ma.byt x k).toNat : Int) > 57))) _ _ rfl (by rfl) (fun W => by go_simp) ?_
                simp only [n1, n3, n4]
                refine wpG_done (fun V55 hv56 => ?_)
                have S57 : Hid (St w noB [] V55) := Lib.hid (S43.out.gr hv56)
                clear S43
                clear hv56
                refine ⟨rfl, hK _ _ ?_⟩
                clear hK
                obtain ⟨c58, hc58⟩ : ∃ q_, q_ = (decide (((Ma.byt x k).toNat : Int) > 57)) := ⟨_, rfl⟩
                rw [← hc58]
                have Hc58 := Lib.hid hc58
                clear hc58
                cases c58 with
                | true =>
                  have f59 := of_decide_eq_true Hc58.out.symm
                  go_upto_region 8 with fail
                  refine wpG_region_k (fun K hK => ?_)
                  refine @wpG_p _ _ _ _ _ (some 2) (.int .i64 (-1)) _ _ rfl (by rfl) (fun _ => rfl) ?_
                  simp only [n1, n3, n4]
                  refine wpG_done (fun V60 hv61 => ?_)
                  have S62 : Hid (St w noB [] V60) := Lib.hid (S57.out.gr hv61)
                  clear S57
                  clear hv61
                  refine ⟨rfl, hK _ _ ?_⟩
                  clear hK
                  go_wp2_with fail
                  go_ret
                  refine ⟨?_, S62.out.bel⟩
                  show Ending.returned (.int .i64 (-1)) = _
                  (first | rfl | (rw [Ma.nr_none (Ma.num_bad (w := x) (k := k) (by omega) (by omega))]))
                | false =>
                  have f63 := of_decide_eq_false Hc58.out.symm
                  go_upto_region 9 with fail
                  refine wpG_region_k (fun K hK => ?_)
                  refine @wpG_p _ _ _ _ _ (some 39) (.int .i64 (n : Int)) _ _ rfl (by rfl) (fun _ => rfl) ?_
                  simp only [n1, n3, n4]
                  refine @wpG_p _ _ _ _ _ (some 40) (.int .i64 (10 * (n : Int))) _ _ rfl (by rfl) (fun W => op_i_mul W 10 (n : Int) (by omega) rfl rfl rfl Tryd.underlying3) ?_
                  simp only [n1, n3, n4]
                  refine @wpG_p _ _ _ _ _ (some 41) (.string (bstr x)) _ _ rfl (by rfl) (fun _ => rfl) ?_
                  simp only [n1, n3, n4]
                  refine @wpG_p _ _ _ _ _ (some 42) (.int .i64 (k : Int)) _ _ rfl (by rfl) (fun _ => rfl) ?_
                  simp only [n1, n3, n4]
                  refine @wpG_p _ _ _ _ _ (some 43) (.int .u8 ((Ma.byt x k).toNat : Int)) _ _ rfl (by rfl) (fun W => op_str_idx W x k (by omega) rfl rfl rfl Tryd.underlying9) ?_
                  simp only [n1, n3, n4]
                  refine @wpG_p _ _ _ _ _ (some 44) (.int .i64 ((Ma.byt x k).toNat : Int)) _ _ rfl (by rfl) (fun W => op_conv_i64 W ((Ma.byt x k).toNat : Int) (by omega) rfl rfl Tryd.underlying5 Tryd.underlying3) ?_
                  simp only [n1, n3, n4]
                  refine @wpG_p _ _ _ _ _ (some 45) (.int .i64 ((10 * (n : Int)) + ((Ma.byt x k).toNat : Int))) _ _ rfl (by rfl) (fun W => op_i_add W (10 * (n : Int)) ((Ma.byt x k).toNat : Int) (by omega) rfl rfl rfl Tryd.underlying3) ?_
                  simp only [n1, n3, n4]
                  refine @wpG_p _ _ _ _ _ (some 46) (.int .i64 (((10 * (n : Int)) + ((Ma.byt x k).toNat : Int)) - 48)) _ _ rfl (by rfl) (fun W => op_i_sub W ((10 * (n : Int)) + ((Ma.byt x k).toNat : Int)) 48 (by omega) rfl rfl rfl Tryd.underlying3) ?_
                  simp only [n1, n3, n4]
                  refine @wpG_p _ _ _ _ _ (some 3) (.int .i64 (((10 * (n : Int)) + ((Ma.byt x k).toNat : Int)) - 48)) _ _ rfl (by rfl) (fun _ => rfl) ?_
                  simp only [n1, n3, n4]
                  refine wpG_done (fun V64 hv65 => ?_)
                  have S66 : Hid (St w noB [] V64) := Lib.hid (S57.out.gr hv65)
                  clear S57
                  clear hv65
                  refine ⟨rfl, hK _ _ ?_⟩
                  clear hK
                  go_upto_region 6 with fail
                  refine wpG_region_k (fun K hK => ?_)
                  refine @wpG_p _ _ _ _ _ (some 27) (.int .i64 (k : Int)) _ _ rfl (by rfl) (fun _ => rfl) ?_
                  simp only [n1, n3, n4]
                  refine @wpG_p _ _ _ _ _ (some 28) (.int .i64 ((k : Int) + 1)) _ _ rfl (by rfl) (fun W => op_i_add W (k : Int) 1 (by omega) rfl rfl rfl Tryd.underlying3) ?_
                  simp only [n1, n3, n4]
                  refine @wpG_p _ _ _ _ _ (some 4) (.int .i64 ((k : Int) + 1)) _ _ rfl (by rfl) (fun _ => rfl) ?_
                  simp only [n1, n3, n4]
                  refine wpG_done (fun V67 hv68 => ?_)
                  have S69 : Hid (St w noB [] V67) := Lib.hid (S66.out.gr hv68)
                  clear S66
                  clear hv68
                  refine ⟨rfl, hK _ _ ?_⟩
                  clear hK
                  go_wp2_with fail
                  go_roundw
                  case rel => exact ⟨k + 1, n * 10 + ((Ma.byt x k).toNat - 48), (by first | rfl | go_num), (by first | rfl | go_num), (by exact Ma.nstep HN_.out (by omega) (by omega) (by omega)), (by omega), S69.out⟩
                  case measure => first | (simp [intOf]; done) | (simp [intOf]; omega) | omega
            | false =>
              have f70 := of_decide_eq_false Hc44.out.symm
              go_upto_region 10 with fail
              refine wpG_region_k (fun K hK => ?_)
              refine @wpG_p _ _ _ _ _ (some 47) (.int .i64 (n : Int)) _ _ rfl (by rfl) (fun _ => rfl) ?_
              simp only [n1, n3, n4]
              refine @wpG_p _ _ _ _ _ (some 2) (.int .i64 (n : Int)) _ _ rfl (by rfl) (fun _ => rfl) ?_
              simp only [n1, n3, n4]
              refine wpG_done (fun V71 hv72 => ?_)
              have S73 : Hid (St w noB [] V71) := Lib.hid (S43.out.gr hv72)
              clear S43
              clear hv72
              refine ⟨rfl, hK _ _ ?_⟩
              clear hK
              go_wp2_with fail
              go_ret
              refine ⟨?_, S73.out.bel⟩
              show Ending.returned (.int .i64 (n : Int)) = _
              (first | rfl | (rw [Ma.nr_some (Ma.ndone (w := x) HN_.out (by omega) (by omega) (by omega) (by first | (left; omega) | exact .inr (fun h => by have h1 := Ma.is48.2 h; omega)))]))
      | false =>
        have f74 := of_decide_eq_false Hc23.out.symm
        refine @wpG_no _ _ _ _ _ (some 18) _ _ rfl (by rfl) ?_
        simp only [n1, n3, n4]
        refine @wpG_no _ _ _ _ _ (some 19) _ _ rfl (by rfl) ?_
        simp only [n1, n3, n4]
        refine @wpG_no _ _ _ _ _ (some 20) _ _ rfl (by rfl) ?_
        simp only [n1, n3, n4]
        refine @wpG_p _ _ _ _ _ (some 21) (.bool false) _ _ rfl (by rfl) (fun W => by go_simp) ?_
        simp only [n1, n3, n4]
        refine @wpG_p _ _ _ _ _ (some 22) (.bool false) _ _ rfl (by rfl) (fun W => by go_simp) ?_
        simp only [n1, n3, n4]
        refine wpG_done (fun V75 hv76 => ?_)
        have S77 : Hid (St w noB [] V75) := Lib.hid (S4.out.gr hv76)
        clear S4
        clear hv76
        refine ⟨rfl, hK _ _ ?_⟩
        clear hK
        go_upto_region 3 with fail
        refine wpG_region_k (fun K hK => ?_)
        refine @wpG_p _ _ _ _ _ (some 3) (.int .i64 0) _ _ rfl (by rfl) (fun _ => rfl) ?_
        simp only [n1, n3, n4]
        refine wpG_done (fun V78 hv79 => ?_)
        have S80 : Hid (St w noB [] V78) := Lib.hid (S77.out.gr hv79)
        clear S77
        clear hv79
        refine ⟨rfl, hK _ _ ?_⟩
        clear hK
        go_upto_region 4 with fail
        refine wpG_region_k (fun K hK => ?_)
        refine @wpG_p _ _ _ _ _ (some 4) (.int .i64 0) _ _ rfl (by rfl) (fun _ => rfl) ?_
        simp only [n1, n3, n4]
        refine wpG_done (fun V81 hv82 => ?_)
        have S83 : Hid (St w noB [] V81) := Lib.hid (S80.out.gr hv82)
        clear S80
        clear hv82
        refine ⟨rfl, hK _ _ ?_⟩
        clear hK
        go_wp2_with fail
        go_loopw [3, 4] (fun v3 v4 wr => ∃ (k n : Nat), v3 = .int .i64 (n : Int) ∧ v4 = .int .i64 (k : Int) ∧ Ma.NInv x k n ∧ k ≤ x.length ∧ St w noB [] wr) (fun _ k _ => x.length - (intOf k).toNat)
        case atStart => exact ⟨0, 0, rfl, rfl, Ma.ninit x, Nat.zero_le _, S83.out⟩
        case round =>
          obtain ⟨k, n, rfl, rfl, hn_, hkl, hS⟩ := hrel
          have HN_ := Lib.hid hn_
          clear hn_
          have SL := Lib.hid hS
          clear S83 hS
          have S84 := SL
          clear SL
          have hn1 := Ma.nlt HN_.out (by omega)
          go_upto_region 5 with fail
          refine wpG_region_k (fun K hK => ?_)
          refine @wpG_p _ _ _ _ _ (some 23) (.int .i64 (k : Int)) _ _ rfl (by rfl) (fun _ => rfl) ?_
          simp only [n1, n3, n4]
          refine @wpG_p _ _ _ _ _ (some 24) (.string (bstr x)) _ _ rfl (by rfl) (fun _ => rfl) ?_
          simp only [n1, n3, n4]
          refine @wpG_p _ _ _ _ _ (some 25) (.int .i64 (x.length : Int)) _ _ rfl (by rfl) (fun W => op_str_len W x rfl rfl Tryd.underlying9) ?_
          simp only [n1, n3, n4]
          refine @wpG_p _ _ _ _ _ (some 26) (.bool (decide ((k : Int) < (x.length : Int)))) _ _ rfl (by rfl) (fun W => op_int_lss W (k : Int) (x.length : Int) rfl rfl rfl Tryd.underlying3) ?_
          simp only [n1, n3, n4]
          refine wpG_done (fun V85 hv86 => ?_)
          have S87 : Hid (St w noB [] V85) := Lib.hid (S84.out.gr hv86)
          clear S84
          clear hv86
          refine ⟨rfl, hK _ _ ?_⟩
          clear hK
          obtain ⟨c88, hc88⟩ : ∃ q_, q_ = (decide ((k : Int) < (x.length : Int))) := ⟨_, rfl⟩
          rw [← hc88]
          have Hc88 := Lib.hid hc88
          clear hc88
          cases c88 with
          | true =>
            have f89 := of_decide_eq_true Hc88.out.symm
            go_upto_region 7 with fail
            refine wpG_region_k (fun K hK => ?_)
            refine @wpG_p _ _ _ _ _ (some 29) (.string (bstr x)) _ _ rfl (by rfl) (fun _ => rfl) ?_
            simp only [n1, n3, n4]
            refine @wpG_p _ _ _ _ _ (some 30) (.int .i64 (k : Int)) _ _ rfl (by rfl) (fun _ => rfl) ?_
            simp only [n1, n3, n4]
            refine @wpG_p _ _ _ _ _ (some 31) (.int .u8 ((Ma.byt x k).toNat : Int)) _ _ rfl (by rfl) (fun W => op_str_idx W x k (by omega) rfl rfl rfl Tryd.underlying9) ?_
            simp only [n1, n3, n4]
            refine @wpG_p _ _ _ _ _ (some 32) (.bool (decide (((Ma.byt x k).toNat : Int) < 48))) _ _ rfl (by rfl) (fun W => op_int_lss W ((Ma.byt x k).toNat : Int) 48 rfl rfl rfl Tryd.underlying5) ?_
            simp only [n1, n3, n4]
            refine @wpG_p _ _ _ _ _ (some 33) (.bool (decide (((Ma.byt x k).toNat : Int) < 48))) _ _ rfl (by rfl) (fun _ => rfl) ?_
            simp only [n1, n3, n4]
            obtain ⟨c90, hc90⟩ : ∃ q_, q_ = (decide (((Ma.byt x k).toNat : Int) < 48)) := ⟨_, rfl⟩
            rw [← hc90]
            have Hc90 := Lib.hid hc90
            clear hc90
            cases c90 with
            | true =>
              have f91 := of_decide_eq_true Hc90.out.symm
              refine @wpG_no _ _ _ _ _ (some 34) _ _ rfl (by rfl) ?_
              simp only [n1, n3, n4]
              refine @wpG_no _ _ _ _ _ (some 35) _ _ rfl (by rfl) ?_
              simp only [n1, n3, n4]
              refine @wpG_no _ _ _ _ _ (some 36) _ _ rfl (by rfl) ?_
              simp only [n1, n3, n4]
              refine @wpG_no _ _ _ _ _ (some 37) _ _ rfl (by rfl) ?_
              simp only [n1, n3, n4]
              refine @wpG_p _ _ _ _ _ (some 38) (.bool true) _ _ rfl (by rfl) (fun W => by go_simp) ?_
              simp only [n1, n3, n4]
              refine wpG_done (fun V92 hv93 => ?_)
              have S94 : Hid (St w noB [] V92) := Lib.hid (S87.out.gr hv93)
              clear S87
              clear hv93
              refine ⟨rfl, hK _ _ ?_⟩
              clear hK
              go_upto_region 8 with fail
              refine wpG_region_k (fun K hK => ?_)
              refine @wpG_p _ _ _ _ _ (some 2) (.int .i64 (-1)) _ _ rfl (by rfl) (fun _ => rfl) ?_
              simp only [n1, n3, n4]
              refine wpG_done (fun V95 hv96 => ?_)
              have S97 : Hid (St w noB [] V95) := Lib.hid (S94.out.gr hv96)
              clear S94
              clear hv96
              refine ⟨rfl, hK _ _ ?_⟩
              clear hK
              go_wp2_with fail
              go_ret
              refine ⟨?_, S97.out.bel⟩
              show Ending.returned (.int .i64 (-1)) = _
              (first | rfl | (rw [Ma.nr_none (Ma.num_bad (w := x) (k := k) (by omega) (by omega))]))
            | false =>
              have f98 := of_decide_eq_false Hc90.out.symm
              refine @wpG_p _ _ _ _ _ (some 34) (.string (bstr x)) _ _ rfl (by rfl) (fun _ => rfl) ?_
              simp only [n1, n3, n4]
              refine @wpG_p _ _ _ _ _ (some 35) (.int .i64 (k : Int)) _ _ rfl (by rfl) (fun _ => rfl) ?_
              simp only [n1, n3, n4]
              refine @wpG_p _ _ _ _ _ (some 36) (.int .u8 ((Ma.byt x k).toNat : Int)) _ _ rfl (by rfl) (fun W => op_str_idx W x k (by omega) rfl rfl rfl Tryd.underlying9) ?_
              simp only [n1, n3, n4]
              refine @wpG_p _ _ _ _ _ (some 37) (.bool (decide (((Ma.byt x k).toNat : Int) > 57))) _ _ rfl (by rfl) (fun W => op_int_gtr W ((Ma.byt x k).toNat : Int) 57 rfl rfl rfl Tryd.underlying5) ?_
              simp only [n1, n3, n4]
              refine @wpG_p _ _ _ _ _ (some 38) (.bool (decide (((Ma.byt x k).toNat : Int) > 57))) _ _ rfl (by rfl) (fun W => by go_simp) ?_
              simp only [n1, n3, n4]
              refine wpG_done (fun V99 hv100 => ?_)
              have S101 : Hid (St w noB [] V99) := Lib.hid (S87.out.gr hv100)
              clear S87
              clear hv100
              refine ⟨rfl, hK _ _ ?_⟩
              clear hK
              obtain ⟨c102, hc102⟩ : ∃ q_, q_ = (decide (((Ma.byt x k).toNat : Int) > 57)) := ⟨_, rfl⟩
              rw [← hc102]
              have Hc102 := Lib.hid hc102
              clear hc102
              cases c102 with
              | true =>
                have f103 := of_decide_eq_true Hc102.out.symm
                go_upto_region 8 with fail
                refine wpG_region_k (fun K hK => ?_)
                refine @wpG_p _ _ _ _ _ (some 2) (.int .i64 (-1)) _ _ rfl (by rfl) (fun _ => rfl) ?_
                simp only [n1, n3, n4]
                refine wpG_done (fun V104 hv105 => ?_)
                have S106 : Hid (St w noB [] V104) := Lib.hid (S101.out.gr hv105)
                clear S101
                clear hv105
                refine ⟨rfl, hK _ _ ?_⟩
                clear hK
                go_wp2_with fail
                go_ret
                refine ⟨?_, S106.out.bel⟩
                show Ending.returned (.int .i64 (-1)) = _
                (first | rfl | (rw [Ma.nr_none (Ma.num_bad (w := x) (k := k) (by omega) (by omega))]))
              | false =>
                have f107 := of_decide_eq_false Hc102.out.symm
                go_upto_region 9 with fail
                refine wpG_region_k (fun K hK => ?_)
                refine @wpG_p _ _ _ _ _ (some 39) (.int .i64 (n : Int)) _ _ rfl (by rfl) (fun _ => rfl) ?_
                simp only [n1, n3, n4]
                refine @wpG_p _ _ _ _ _ (some 40) (.int .i64 (10 * (n : Int))) _ _ rfl (by rfl) (fun W => op_i_mul W 10 (n : Int) (by omega) rfl rfl rfl Tryd.underlying3) ?_
                simp only [n1, n3, n4]
                refine @wpG_p _ _ _ _ _ (some 41) (.string (bstr x)) _ _ rfl (by rfl) (fun _ => rfl) ?_
                simp only [n1, n3, n4]
                refine @wpG_p _ _ _ _ _ (some 42) (.int .i64 (k : Int)) _ _ rfl (by rfl) (fun _ => rfl) ?_
                simp only [n1, n3, n4]
                refine @wpG_p _ _ _ _ _ (some 43) (.int .u8 ((Ma.byt x k).toNat : Int)) _ _ rfl (by rfl) (fun W => op_str_idx W x k (by omega) rfl rfl rfl Tryd.underlying9) ?_
                simp only [n1, n3, n4]
                refine @wpG_p _ _ _ _ _ (some 44) (.int .i64 ((Ma.byt x k).toNat : Int)) _ _ rfl (by rfl) (fun W => op_conv_i64 W ((Ma.byt x k).toNat : Int) (by omega) rfl rfl Tryd.underlying5 Tryd.underlying3) ?_
                simp only [n1, n3, n4]
                refine @wpG_p _ _ _ _ _ (some 45) (.int .i64 ((10 * (n : Int)) + ((Ma.byt x k).toNat : Int))) _ _ rfl (by rfl) (fun W => op_i_add W (10 * (n : Int)) ((Ma.byt x k).toNat : Int) (by omega) rfl rfl rfl Tryd.underlying3) ?_
                simp only [n1, n3, n4]
                refine @wpG_p _ _ _ _ _ (some 46) (.int .i64 (((10 * (n : Int)) + ((Ma.byt x k).toNat : Int)) - 48)) _ _ rfl (by rfl) (fun W => op_i_sub W ((10 * (n : Int)) + ((Ma.byt x k).toNat : Int)) 48 (by omega) rfl rfl rfl Tryd.underlying3) ?_
                simp only [n1, n3, n4]
                refine @wpG_p _ _ _ _ _ (some 3) (.int .i64 (((10 * (n : Int)) + ((Ma.byt x k).toNat : Int)) - 48)) _ _ rfl (by rfl) (fun _ => rfl) ?_
                simp only [n1, n3, n4]
                refine wpG_done (fun V108 hv109 => ?_)
                have S110 : Hid (St w noB [] V108) := Lib.hid (S101.out.gr hv109)
                clear S101
                clear hv109
                refine ⟨rfl, hK _ _ ?_⟩
                clear hK
                go_upto_region 6 with fail
                refine wpG_region_k (fun K hK => ?_)
                refine @wpG_p _ _ _ _ _ (some 27) (.int .i64 (k : Int)) _ _ rfl (by rfl) (fun _ => rfl) ?_
                simp only [n1, n3, n4]
                refine @wpG_p _ _ _ _ _ (some 28) (.int .i64 ((k : Int) + 1)) _ _ rfl (by rfl) (fun W => op_i_add W (k : Int) 1 (by omega) rfl rfl rfl Tryd.underlying3) ?_
                simp only [n1, n3, n4]
                refine @wpG_p _ _ _ _ _ (some 4) (.int .i64 ((k : Int) + 1)) _ _ rfl (by rfl) (fun _ => rfl) ?_
                simp only [n1, n3, n4]
                refine wpG_done (fun V111 hv112 => ?_)
                have S113 : Hid (St w noB [] V111) := Lib.hid (S110.out.gr hv112)
                clear S110
                clear hv112
                refine ⟨rfl, hK _ _ ?_⟩
                clear hK
                go_wp2_with fail
                go_roundw
                case rel => exact ⟨k + 1, n * 10 + ((Ma.byt x k).toNat - 48), (by first | rfl | go_num), (by first | rfl | go_num), (by exact Ma.nstep HN_.out (by omega) (by omega) (by omega)), (by omega), S113.out⟩
                case measure => first | (simp [intOf]; done) | (simp [intOf]; omega) | omega
          | false =>
            have f114 := of_decide_eq_false Hc88.out.symm
            go_upto_region 10 with fail
            refine wpG_region_k (fun K hK => ?_)
            refine @wpG_p _ _ _ _ _ (some 47) (.int .i64 (n : Int)) _ _ rfl (by rfl) (fun _ => rfl) ?_
            simp only [n1, n3, n4]
            refine @wpG_p _ _ _ _ _ (some 2) (.int .i64 (n : Int)) _ _ rfl (by rfl) (fun _ => rfl) ?_
            simp only [n1, n3, n4]
            refine wpG_done (fun V115 hv116 => ?_)
            have S117 : Hid (St w noB [] V115) := Lib.hid (S87.out.gr hv116)
            clear S87
            clear hv116
            refine ⟨rfl, hK _ _ ?_⟩
            clear hK
            go_wp2_with fail
            go_ret
            refine ⟨?_, S117.out.bel⟩
            show Ending.returned (.int .i64 (n : Int)) = _
            (first | rfl | (rw [Ma.nr_some (Ma.ndone (w := x) HN_.out (by omega) (by omega) (by omega) (by first | (left; omega) | exact .inr (fun h => by have h1 := Ma.is48.2 h; omega)))]))

end Go.Proofs.YtpjjddjoegnipaaDoor
