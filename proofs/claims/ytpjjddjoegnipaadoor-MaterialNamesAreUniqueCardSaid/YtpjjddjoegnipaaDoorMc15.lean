/-
  Contract: a text read by the program.
-/
import Derived.Test.YtpjjddjoegnipaaDoorMc10
import Derived.Test.YtpjjddjoegnipaaDoorMc7
import Derived.Test.YtpjjddjoegnipaaDoorMag
import Derived.Handy
namespace Go.Proofs.YtpjjddjoegnipaaDoor
open Go Go.RowKit
set_option linter.unusedVariables false
set_option linter.unusedSimpArgs false
set_option maxRecDepth 1000000 in
set_option maxHeartbeats 4000000 in
theorem parse_any (x : List UInt8) (w : World) (hx : x.length ≤ 281474976710656) (hE : Ev w) :
    Calls Tryd.prog 27 #[.string (bstr x)] w fun e w' => ∃ A n c, e = .returned (.tuple #[.slice A n c, .int .i64 (Ma.parse x).2.1, .int .i64 (Ma.parse x).2.2]) ∧ St w noB [own (.slice A n c) 35 8 n (mcs (Ma.parse x).1)] w' := by
  have HE := Lib.hid hE
  have HK := Lib.hid hE.k
  clear hE
  have S1 : Hid (St w noB [] w) := Lib.hid (St.start w)
  go_enter Tryd.func27, Tryd.ntmps27
  go_upto_region 0 with fail
  refine wpG_region_k (fun K hK => ?_)
  refine @wpG_p _ _ _ _ _ (some 2) (.slice none 0 0) _ _ rfl (by rfl) (fun _ => rfl) ?_
  simp only [n1, n3, n4]
  refine @wpG_p _ _ _ _ _ (some 3) (.int .i64 0) _ _ rfl (by rfl) (fun _ => rfl) ?_
  simp only [n1, n3, n4]
  refine @wpG_p _ _ _ _ _ (some 4) (.int .i64 0) _ _ rfl (by rfl) (fun _ => rfl) ?_
  simp only [n1, n3, n4]
  refine wpG_done (fun V2 hv3 => ?_)
  have S4 : Hid (St w noB [] V2) := Lib.hid (S1.out.gr hv3)
  clear S1
  clear hv3
  refine ⟨rfl, hK _ _ ?_⟩
  clear hK
  go_upto_region 1 with fail
  refine wpG_region_k (fun K hK => ?_)
  refine @wpG_p _ _ _ _ _ (some 5) (.slice none 0 0) _ _ rfl (by rfl) (fun _ => rfl) ?_
  simp only [n1, n3, n4]
  refine wpG_done (fun V5 hv6 => ?_)
  have S7 : Hid (St w noB [] V5) := Lib.hid (S4.out.gr hv6)
  clear S4
  clear hv6
  refine ⟨rfl, hK _ _ ?_⟩
  clear hK
  go_upto_region 2 with fail
  refine wpG_region_k (fun K hK => ?_)
  refine @wpG_p _ _ _ _ _ (some 6) (.int .i64 1) _ _ rfl (by rfl) (fun _ => rfl) ?_
  simp only [n1, n3, n4]
  refine wpG_done (fun V8 hv9 => ?_)
  have S10 : Hid (St w noB [] V8) := Lib.hid (S7.out.gr hv9)
  clear S7
  clear hv9
  refine ⟨rfl, hK _ _ ?_⟩
  clear hK
  have S11 : Hid (St w noB [own (.slice none 0 0) 35 8 0 (mcs (Ma.tab []))] V8) := Lib.hid (S10.out.nilOwn 35 8)
  clear S10
  go_wp2_with fail
  go_loopw [0, 5, 6] (fun v0 v5 v6 wr => ∃ (A : Option Addr) (n c : Nat) (ls : List (List UInt8)) (y : List UInt8), v0 = .string (bstr y) ∧ v5 = .slice A n c ∧ v6 = .int .i64 ((ls.length : Int) + 1) ∧ Ma.PInv x ls y ∧ St w noB [own (.slice A n c) 35 8 n (mcs (Ma.tab ls))] wr) (fun _ _ i _ => x.length + 1 - (intOf i).toNat)
  case atStart => exact ⟨none, 0, 0, [], x, rfl, rfl, rfl, Ma.pinit x, S11.out⟩
  case round =>
    obtain ⟨A, n, c, ls, y, rfl, rfl, rfl, hp_, hS⟩ := hrel
    have HP_ := Lib.hid hp_
    clear hp_
    have SL := Lib.hid hS
    clear S11 hS
    have S12 := SL
    clear SL
    have hpl := Ma.plen HP_.out
    have HN := Lib.hid (own_mcs (S12.out.ownr 0 rfl))
    have hcl := (Ma.cut_le 10 y).1
    go_upto_region 3 with fail
    refine wpG_region_k (fun K hK => ?_)
    refine @wpG_p _ _ _ _ _ (some 14) (.string (bstr y)) _ _ rfl (by rfl) (fun _ => rfl) ?_
    simp only [n1, n3, n4]
    refine @wpG_p _ _ _ _ _ (some 15) (.bool (decide (y ≠ []))) _ _ rfl (by rfl) (fun W => op_str_neq W y [] rfl rfl rfl Tryd.underlying9) ?_
    simp only [n1, n3, n4]
    refine wpG_done (fun V13 hv14 => ?_)
    have S15 : Hid (St w noB [own (.slice A n c) 35 8 n (mcs (Ma.tab ls))] V13) := Lib.hid (S12.out.gr hv14)
    clear S12
    clear hv14
    refine ⟨rfl, hK _ _ ?_⟩
    clear hK
    obtain ⟨c16, hc16⟩ : ∃ q_, q_ = (decide (y ≠ [])) := ⟨_, rfl⟩
    rw [← hc16]
    have Hc16 := Lib.hid hc16
    clear hc16
    cases c16 with
    | true =>
      have f17 := of_decide_eq_true Hc16.out.symm
      go_upto_region 5 with fail
      refine wpG_region_k (fun K hK => ?_)
      refine @wpG_p _ _ _ _ _ (some 19) (.string (bstr y)) _ _ rfl (by rfl) (fun _ => rfl) ?_
      simp only [n1, n3, n4]
      refine @wpG_tk _ _ _ _ _ (some 20) (.tuple #[.string (bstr ((Ma.cut 10 y).1)), .string (bstr ((Ma.cut 10 y).2.1)), .bool ((Ma.cut 10 y).2.2)]) _ _ rfl (.call (f := 39) (args := #[.string (bstr y), .string ⟨#[10]⟩]) (by rfl) (fun W => by go_simp) (fun W hg => cut_any y 10 W (by omega))) ?_
      simp only [n1, n3, n4]
      refine @wpG_p _ _ _ _ _ (some 18) (.tuple #[.string (bstr ((Ma.cut 10 y).1)), .string (bstr ((Ma.cut 10 y).2.1)), .bool ((Ma.cut 10 y).2.2)]) _ _ rfl (by rfl) (fun _ => rfl) ?_
      simp only [n1, n3, n4]
      refine @wpG_p _ _ _ _ _ (some 21) (.string (bstr ((Ma.cut 10 y).1))) _ _ rfl (by rfl) (fun W => by go_simp) ?_
      simp only [n1, n3, n4]
      refine @wpG_p _ _ _ _ _ (some 22) (.string (bstr ((Ma.cut 10 y).2.1))) _ _ rfl (by rfl) (fun W => by go_simp) ?_
      simp only [n1, n3, n4]
      refine @wpG_p _ _ _ _ _ (some 23) (.bool ((Ma.cut 10 y).2.2)) _ _ rfl (by rfl) (fun W => by go_simp) ?_
      simp only [n1, n3, n4]
      refine @wpG_p _ _ _ _ _ (some 7) (.string (bstr ((Ma.cut 10 y).1))) _ _ rfl (by rfl) (fun _ => rfl) ?_
      simp only [n1, n3, n4]
      refine @wpG_p _ _ _ _ _ (some 8) (.string (bstr ((Ma.cut 10 y).2.1))) _ _ rfl (by rfl) (fun _ => rfl) ?_
      simp only [n1, n3, n4]
      refine @wpG_p _ _ _ _ _ (some 9) (.bool ((Ma.cut 10 y).2.2)) _ _ rfl (by rfl) (fun _ => rfl) ?_
      simp only [n1, n3, n4]
      refine wpG_done (fun V18 hv19 => ?_)
      have S20 : Hid (St w noB [own (.slice A n c) 35 8 n (mcs (Ma.tab ls))] V18) := Lib.hid (S15.out.gr hv19)
      clear S15
      clear hv19
      refine ⟨rfl, hK _ _ ?_⟩
      clear hK
      go_upto_region 6 with fail
      refine wpG_region_k (fun K hK => ?_)
      refine @wpG_p _ _ _ _ _ (some 25) (.string (bstr ((Ma.cut 10 y).1))) _ _ rfl (by rfl) (fun _ => rfl) ?_
      simp only [n1, n3, n4]
      refine @wpG_tk _ _ _ _ _ (some 26) (.tuple #[.agg #[.string (bstr ((Ma.matz ((Ma.cut 10 y).1)).n)), .bool ((Ma.matz ((Ma.cut 10 y).1)).s), .bool ((Ma.matz ((Ma.cut 10 y).1)).l), .bool ((Ma.matz ((Ma.cut 10 y).1)).f), .int .i64 ((Ma.matz ((Ma.cut 10 y).1)).fd), .int .i64 ((Ma.matz ((Ma.cut 10 y).1)).a), .int .i64 ((Ma.matz ((Ma.cut 10 y).1)).b), .int .i64 ((Ma.matz ((Ma.cut 10 y).1)).c)], .bool ((Ma.mat ((Ma.cut 10 y).1)).isSome)]) _ _ rfl (.call (f := 40) (args := #[.string (bstr ((Ma.cut 10 y).1))]) (by rfl) (fun W => by go_simp) (fun W hg => pline_any ((Ma.cut 10 y).1) W (Nat.le_trans hcl (by omega)) (HE.out.st (S20.out.gr hg) noGlob))) ?_
      simp only [n1, n3, n4]
      refine @wpG_p _ _ _ _ _ (some 24) (.tuple #[.agg #[.string (bstr ((Ma.matz ((Ma.cut 10 y).1)).n)), .bool ((Ma.matz ((Ma.cut 10 y).1)).s), .bool ((Ma.matz ((Ma.cut 10 y).1)).l), .bool ((Ma.matz ((Ma.cut 10 y).1)).f), .int .i64 ((Ma.matz ((Ma.cut 10 y).1)).fd), .int .i64 ((Ma.matz ((Ma.cut 10 y).1)).a), .int .i64 ((Ma.matz ((Ma.cut 10 y).1)).b), .int .i64 ((Ma.matz ((Ma.cut 10 y).1)).c)], .bool ((Ma.mat ((Ma.cut 10 y).1)).isSome)]) _ _ rfl (by rfl) (fun _ => rfl) ?_
      simp only [n1, n3, n4]
      refine @wpG_p _ _ _ _ _ (some 27) (.agg #[.string (bstr ((Ma.matz ((Ma.cut 10 y).1)).n)), .bool ((Ma.matz ((Ma.cut 10 y).1)).s), .bool ((Ma.matz ((Ma.cut 10 y).1)).l), .bool ((Ma.matz ((Ma.cut 10 y).1)).f), .int .i64 ((Ma.matz ((Ma.cut 10 y).1)).fd), .int .i64 ((Ma.matz ((Ma.cut 10 y).1)).a), .int .i64 ((Ma.matz ((Ma.cut 10 y).1)).b), .int .i64 ((Ma.matz ((Ma.cut 10 y).1)).c)]) _ _ rfl (by rfl) (fun W => by go_simp) ?_
      simp only [n1, n3, n4]
      refine @wpG_p _ _ _ _ _ (some 28) (.bool ((Ma.mat ((Ma.cut 10 y).1)).isSome)) _ _ rfl (by rfl) (fun W => by go_simp) ?_
      simp only [n1, n3, n4]
      refine wpG_val (some 10) rfl (by rfl) (fun W21 hg22 => ⟨.pointer (some ⟨W21.heap.size, 0, none⟩), W21.alloc (.cells #[.string ⟨#[]⟩, .bool false, .bool false, .bool false, .int .i64 0, .int .i64 0, .int .i64 0, .int .i64 0] 35), by (first | (go_simp; done) | (go_simp <;> rfl)), ?_⟩)
      simp only [n1, n3, n4]
      obtain ⟨g23, U24, hg_, hu_, hS_⟩ := (S20.out.gr hg22).made [.string ⟨#[]⟩, .bool false, .bool false, .bool false, .int .i64 0, .int .i64 0, .int .i64 0, .int .i64 0] 35
      rw [← hu_, ← hg_]
      have S25 : Hid (St w noB [blk g23 35 [.string ⟨#[]⟩, .bool false, .bool false, .bool false, .int .i64 0, .int .i64 0, .int .i64 0, .int .i64 0], own (.slice A n c) 35 8 n (mcs (Ma.tab ls))] U24) := Lib.hid hS_
      clear S20
      clear hg_ hu_ hS_ hg22
      refine wpG_store (none) rfl (by rfl) (fun W26 hg27 => ⟨_, run_store_mid 35 (.tmp 10) (.tmp 27) rfl g23 0 #[.string (bstr ((Ma.matz ((Ma.cut 10 y).1)).n)), .bool ((Ma.matz ((Ma.cut 10 y).1)).s), .bool ((Ma.matz ((Ma.cut 10 y).1)).l), .bool ((Ma.matz ((Ma.cut 10 y).1)).f), .int .i64 ((Ma.matz ((Ma.cut 10 y).1)).fd), .int .i64 ((Ma.matz ((Ma.cut 10 y).1)).a), .int .i64 ((Ma.matz ((Ma.cut 10 y).1)).b), .int .i64 ((Ma.matz ((Ma.cut 10 y).1)).c)] rfl rfl ((S25.out.gr hg27).room 0 rfl 0 8 (by simp)) (by kernel_rfl) (by kernel_rfl), ?_⟩)
      simp only [n2]
      obtain ⟨U28, hu_, hS_⟩ := ((S25.out.gr hg27).put 0 rfl 0 (#[.string (bstr ((Ma.matz ((Ma.cut 10 y).1)).n)), .bool ((Ma.matz ((Ma.cut 10 y).1)).s), .bool ((Ma.matz ((Ma.cut 10 y).1)).l), .bool ((Ma.matz ((Ma.cut 10 y).1)).f), .int .i64 ((Ma.matz ((Ma.cut 10 y).1)).fd), .int .i64 ((Ma.matz ((Ma.cut 10 y).1)).a), .int .i64 ((Ma.matz ((Ma.cut 10 y).1)).b), .int .i64 ((Ma.matz ((Ma.cut 10 y).1)).c)] : Array Value).toList (ds := [.string (bstr ((Ma.matz ((Ma.cut 10 y).1)).n)), .bool ((Ma.matz ((Ma.cut 10 y).1)).s), .bool ((Ma.matz ((Ma.cut 10 y).1)).l), .bool ((Ma.matz ((Ma.cut 10 y).1)).f), .int .i64 ((Ma.matz ((Ma.cut 10 y).1)).fd), .int .i64 ((Ma.matz ((Ma.cut 10 y).1)).a), .int .i64 ((Ma.matz ((Ma.cut 10 y).1)).b), .int .i64 ((Ma.matz ((Ma.cut 10 y).1)).c)]) rfl).named
      rw [← hu_]
      have S29 : Hid (St w noB [blk g23 35 [.string (bstr ((Ma.matz ((Ma.cut 10 y).1)).n)), .bool ((Ma.matz ((Ma.cut 10 y).1)).s), .bool ((Ma.matz ((Ma.cut 10 y).1)).l), .bool ((Ma.matz ((Ma.cut 10 y).1)).f), .int .i64 ((Ma.matz ((Ma.cut 10 y).1)).fd), .int .i64 ((Ma.matz ((Ma.cut 10 y).1)).a), .int .i64 ((Ma.matz ((Ma.cut 10 y).1)).b), .int .i64 ((Ma.matz ((Ma.cut 10 y).1)).c)], own (.slice A n c) 35 8 n (mcs (Ma.tab ls))] U28) := Lib.hid hS_
      clear S25
      clear hu_ hS_ hg27
      refine @wpG_p _ _ _ _ _ (some 11) (.bool ((Ma.mat ((Ma.cut 10 y).1)).isSome)) _ _ rfl (by rfl) (fun _ => rfl) ?_
      simp only [n1, n3, n4]
      refine wpG_done (fun V30 hv31 => ?_)
      have S32 : Hid (St w noB [blk g23 35 [.string (bstr ((Ma.matz ((Ma.cut 10 y).1)).n)), .bool ((Ma.matz ((Ma.cut 10 y).1)).s), .bool ((Ma.matz ((Ma.cut 10 y).1)).l), .bool ((Ma.matz ((Ma.cut 10 y).1)).f), .int .i64 ((Ma.matz ((Ma.cut 10 y).1)).fd), .int .i64 ((Ma.matz ((Ma.cut 10 y).1)).a), .int .i64 ((Ma.matz ((Ma.cut 10 y).1)).b), .int .i64 ((Ma.matz ((Ma.cut 10 y).1)).c)], own (.slice A n c) 35 8 n (mcs (Ma.tab ls))] V30) := Lib.hid (S29.out.gr hv31)
      clear S29
      clear hv31
      refine ⟨rfl, hK _ _ ?_⟩
      clear hK
      go_upto_region 7 with fail
      refine wpG_region_k (fun K hK => ?_)
      refine @wpG_p _ _ _ _ _ (some 29) (.bool ((Ma.cut 10 y).2.2)) _ _ rfl (by rfl) (fun _ => rfl) ?_
      simp only [n1, n3, n4]
      refine @wpG_p _ _ _ _ _ (some 30) (.bool (!((Ma.cut 10 y).2.2))) _ _ rfl (by rfl) (fun W => by go_simp) ?_
      simp only [n1, n3, n4]
      refine @wpG_p _ _ _ _ _ (some 31) (.bool (!((Ma.cut 10 y).2.2))) _ _ rfl (by rfl) (fun _ => rfl) ?_
      simp only [n1, n3, n4]
      obtain ⟨c33, hc33⟩ : ∃ q_, q_ = (!((Ma.cut 10 y).2.2)) := ⟨_, rfl⟩
      rw [← hc33]
      have Hc33 := Lib.hid hc33
      clear hc33
      cases c33 with
      | true =>
        have f34 := Lib.hid ((bnt Hc33.out))
        refine @wpG_no _ _ _ _ _ (some 32) _ _ rfl (by rfl) ?_
        simp only [n1, n3, n4]
        refine @wpG_no _ _ _ _ _ (some 33) _ _ rfl (by rfl) ?_
        simp only [n1, n3, n4]
        refine @wpG_p _ _ _ _ _ (some 34) (.bool true) _ _ rfl (by rfl) (fun W => by go_simp) ?_
        simp only [n1, n3, n4]
        refine wpG_done (fun V35 hv36 => ?_)
        have S37 : Hid (St w noB [blk g23 35 [.string (bstr ((Ma.matz ((Ma.cut 10 y).1)).n)), .bool ((Ma.matz ((Ma.cut 10 y).1)).s), .bool ((Ma.matz ((Ma.cut 10 y).1)).l), .bool ((Ma.matz ((Ma.cut 10 y).1)).f), .int .i64 ((Ma.matz ((Ma.cut 10 y).1)).fd), .int .i64 ((Ma.matz ((Ma.cut 10 y).1)).a), .int .i64 ((Ma.matz ((Ma.cut 10 y).1)).b), .int .i64 ((Ma.matz ((Ma.cut 10 y).1)).c)], own (.slice A n c) 35 8 n (mcs (Ma.tab ls))] V35) := Lib.hid (S32.out.gr hv36)
        clear S32
        clear hv36
        refine ⟨rfl, hK _ _ ?_⟩
        clear hK
        go_upto_region 8 with fail
        refine wpG_region_k (fun K hK => ?_)
        refine @wpG_p _ _ _ _ _ (some 35) (.int .i64 ((ls.length : Int) + 1)) _ _ rfl (by rfl) (fun _ => rfl) ?_
        simp only [n1, n3, n4]
        refine @wpG_p _ _ _ _ _ (some 2) (.slice none 0 0) _ _ rfl (by rfl) (fun _ => rfl) ?_
        simp only [n1, n3, n4]
        refine @wpG_p _ _ _ _ _ (some 3) (.int .i64 ((ls.length : Int) + 1)) _ _ rfl (by rfl) (fun _ => rfl) ?_
        simp only [n1, n3, n4]
        refine @wpG_p _ _ _ _ _ (some 4) (.int .i64 3) _ _ rfl (by rfl) (fun _ => rfl) ?_
        simp only [n1, n3, n4]
        refine wpG_done (fun V38 hv39 => ?_)
        have S40 : Hid (St w noB [blk g23 35 [.string (bstr ((Ma.matz ((Ma.cut 10 y).1)).n)), .bool ((Ma.matz ((Ma.cut 10 y).1)).s), .bool ((Ma.matz ((Ma.cut 10 y).1)).l), .bool ((Ma.matz ((Ma.cut 10 y).1)).f), .int .i64 ((Ma.matz ((Ma.cut 10 y).1)).fd), .int .i64 ((Ma.matz ((Ma.cut 10 y).1)).a), .int .i64 ((Ma.matz ((Ma.cut 10 y).1)).b), .int .i64 ((Ma.matz ((Ma.cut 10 y).1)).c)], own (.slice A n c) 35 8 n (mcs (Ma.tab ls))] V38) := Lib.hid (S37.out.gr hv39)
        clear S37
        clear hv39
        refine ⟨rfl, hK _ _ ?_⟩
        clear hK
        go_wp2_with fail
        go_ret3
        (have e_f34 := f34.out; have hq := Ma.pbad_end HP_.out f17 e_f34; exact ⟨none, 0, 0, by rw [hq]; try rfl, by rw [hq]; exact S40.out.dropAll.nilOwn _ _⟩)
      | false =>
        have f41 := Lib.hid ((bnf Hc33.out))
        refine @wpG_p _ _ _ _ _ (some 32) (.bool ((Ma.mat ((Ma.cut 10 y).1)).isSome)) _ _ rfl (by rfl) (fun _ => rfl) ?_
        simp only [n1, n3, n4]
        refine @wpG_p _ _ _ _ _ (some 33) (.bool (!((Ma.mat ((Ma.cut 10 y).1)).isSome))) _ _ rfl (by rfl) (fun W => by go_simp) ?_
        simp only [n1, n3, n4]
        refine @wpG_p _ _ _ _ _ (some 34) (.bool (!((Ma.mat ((Ma.cut 10 y).1)).isSome))) _ _ rfl (by rfl) (fun W => by go_simp) ?_
        simp only [n1, n3, n4]
        refine wpG_done (fun V42 hv43 => ?_)
        have S44 : Hid (St w noB [blk g23 35 [.string (bstr ((Ma.matz ((Ma.cut 10 y).1)).n)), .bool ((Ma.matz ((Ma.cut 10 y).1)).s), .bool ((Ma.matz ((Ma.cut 10 y).1)).l), .bool ((Ma.matz ((Ma.cut 10 y).1)).f), .int .i64 ((Ma.matz ((Ma.cut 10 y).1)).fd), .int .i64 ((Ma.matz ((Ma.cut 10 y).1)).a), .int .i64 ((Ma.matz ((Ma.cut 10 y).1)).b), .int .i64 ((Ma.matz ((Ma.cut 10 y).1)).c)], own (.slice A n c) 35 8 n (mcs (Ma.tab ls))] V42) := Lib.hid (S32.out.gr hv43)
        clear S32
        clear hv43
        refine ⟨rfl, hK _ _ ?_⟩
        clear hK
        obtain ⟨c45, hc45⟩ : ∃ q_, q_ = (!((Ma.mat ((Ma.cut 10 y).1)).isSome)) := ⟨_, rfl⟩
        rw [← hc45]
        have Hc45 := Lib.hid hc45
        clear hc45
        cases c45 with
        | true =>
          have f46 := Lib.hid ((bnt Hc45.out))
          go_upto_region 8 with fail
          refine wpG_region_k (fun K hK => ?_)
          refine @wpG_p _ _ _ _ _ (some 35) (.int .i64 ((ls.length : Int) + 1)) _ _ rfl (by rfl) (fun _ => rfl) ?_
          simp only [n1, n3, n4]
          refine @wpG_p _ _ _ _ _ (some 2) (.slice none 0 0) _ _ rfl (by rfl) (fun _ => rfl) ?_
          simp only [n1, n3, n4]
          refine @wpG_p _ _ _ _ _ (some 3) (.int .i64 ((ls.length : Int) + 1)) _ _ rfl (by rfl) (fun _ => rfl) ?_
          simp only [n1, n3, n4]
          refine @wpG_p _ _ _ _ _ (some 4) (.int .i64 3) _ _ rfl (by rfl) (fun _ => rfl) ?_
          simp only [n1, n3, n4]
          refine wpG_done (fun V47 hv48 => ?_)
          have S49 : Hid (St w noB [blk g23 35 [.string (bstr ((Ma.matz ((Ma.cut 10 y).1)).n)), .bool ((Ma.matz ((Ma.cut 10 y).1)).s), .bool ((Ma.matz ((Ma.cut 10 y).1)).l), .bool ((Ma.matz ((Ma.cut 10 y).1)).f), .int .i64 ((Ma.matz ((Ma.cut 10 y).1)).fd), .int .i64 ((Ma.matz ((Ma.cut 10 y).1)).a), .int .i64 ((Ma.matz ((Ma.cut 10 y).1)).b), .int .i64 ((Ma.matz ((Ma.cut 10 y).1)).c)], own (.slice A n c) 35 8 n (mcs (Ma.tab ls))] V47) := Lib.hid (S44.out.gr hv48)
          clear S44
          clear hv48
          refine ⟨rfl, hK _ _ ?_⟩
          clear hK
          go_wp2_with fail
          go_ret3
          (have e_f41 := f41.out; have e_f46 := f46.out; have hq := Ma.pbad_line HP_.out e_f41 e_f46; exact ⟨none, 0, 0, by rw [hq]; try rfl, by rw [hq]; exact S49.out.dropAll.nilOwn _ _⟩)
        | false =>
          have f50 := Lib.hid ((bnf Hc45.out))
          go_upto_region 9 with fail
          refine wpG_region_k (fun K hK => ?_)
          refine @wpG_p _ _ _ _ _ (some 36) (.slice A n c) _ _ rfl (by rfl) (fun _ => rfl) ?_
          simp only [n1, n3, n4]
          refine @wpG_p _ _ _ _ _ (some 37) (.int .i64 (n : Int)) _ _ rfl (by rfl) (fun W => by go_simp) ?_
          simp only [n1, n3, n4]
          refine @wpG_p _ _ _ _ _ (some 38) (.bool (decide ((n : Int) ≤ 256))) _ _ rfl (by rfl) (fun W => op_int_leq W (n : Int) 256 rfl rfl rfl Tryd.underlying3) ?_
          simp only [n1, n3, n4]
          refine wpG_done (fun V51 hv52 => ?_)
          have S53 : Hid (St w noB [blk g23 35 [.string (bstr ((Ma.matz ((Ma.cut 10 y).1)).n)), .bool ((Ma.matz ((Ma.cut 10 y).1)).s), .bool ((Ma.matz ((Ma.cut 10 y).1)).l), .bool ((Ma.matz ((Ma.cut 10 y).1)).f), .int .i64 ((Ma.matz ((Ma.cut 10 y).1)).fd), .int .i64 ((Ma.matz ((Ma.cut 10 y).1)).a), .int .i64 ((Ma.matz ((Ma.cut 10 y).1)).b), .int .i64 ((Ma.matz ((Ma.cut 10 y).1)).c)], own (.slice A n c) 35 8 n (mcs (Ma.tab ls))] V51) := Lib.hid (S44.out.gr hv52)
          clear S44
          clear hv52
          refine ⟨rfl, hK _ _ ?_⟩
          clear hK
          obtain ⟨c54, hc54⟩ : ∃ q_, q_ = (decide ((n : Int) ≤ 256)) := ⟨_, rfl⟩
          rw [← hc54]
          have Hc54 := Lib.hid hc54
          clear hc54
          cases c54 with
          | true =>
            have f55 := of_decide_eq_true Hc54.out.symm
            go_upto_region 10 with fail
            refine wpG_region_k (fun K hK => ?_)
            refine @wpG_p _ _ _ _ _ (some 39) (.slice A n c) _ _ rfl (by rfl) (fun _ => rfl) ?_
            simp only [n1, n3, n4]
            refine @wpG_tk _ _ _ _ _ (some 40) (.agg #[.string (bstr ((Ma.matz ((Ma.cut 10 y).1)).n)), .bool ((Ma.matz ((Ma.cut 10 y).1)).s), .bool ((Ma.matz ((Ma.cut 10 y).1)).l), .bool ((Ma.matz ((Ma.cut 10 y).1)).f), .int .i64 ((Ma.matz ((Ma.cut 10 y).1)).fd), .int .i64 ((Ma.matz ((Ma.cut 10 y).1)).a), .int .i64 ((Ma.matz ((Ma.cut 10 y).1)).b), .int .i64 ((Ma.matz ((Ma.cut 10 y).1)).c)]) _ _ rfl (.load_mid (by rfl) 35 (.tmp 10) rfl g23 0 rfl [.string (bstr ((Ma.matz ((Ma.cut 10 y).1)).n)), .bool ((Ma.matz ((Ma.cut 10 y).1)).s), .bool ((Ma.matz ((Ma.cut 10 y).1)).l), .bool ((Ma.matz ((Ma.cut 10 y).1)).f), .int .i64 ((Ma.matz ((Ma.cut 10 y).1)).fd), .int .i64 ((Ma.matz ((Ma.cut 10 y).1)).a), .int .i64 ((Ma.matz ((Ma.cut 10 y).1)).b), .int .i64 ((Ma.matz ((Ma.cut 10 y).1)).c)] _ (fun W hg => (S53.out.gr hg).range 0 rfl 0 8 rfl) Tryd.underlying35 rfl (by kernel_rfl)) ?_
            simp only [n1, n3, n4]
            refine wpG_val (some 41) rfl (by rfl) (fun W56 hg57 => ⟨.slice (some ⟨W56.heap.size, 0, none⟩) 1 1, W56.alloc (.cells #[.string (bstr ((Ma.matz ((Ma.cut 10 y).1)).n)), .bool ((Ma.matz ((Ma.cut 10 y).1)).s), .bool ((Ma.matz ((Ma.cut 10 y).1)).l), .bool ((Ma.matz ((Ma.cut 10 y).1)).f), .int .i64 ((Ma.matz ((Ma.cut 10 y).1)).fd), .int .i64 ((Ma.matz ((Ma.cut 10 y).1)).a), .int .i64 ((Ma.matz ((Ma.cut 10 y).1)).b), .int .i64 ((Ma.matz ((Ma.cut 10 y).1)).c)] 35), by (go_simp <;> rfl), ?_⟩)
            simp only [n1, n3, n4]
            obtain ⟨g58, U59, hg_, hu_, hS_⟩ := (S53.out.gr hg57).made [.string (bstr ((Ma.matz ((Ma.cut 10 y).1)).n)), .bool ((Ma.matz ((Ma.cut 10 y).1)).s), .bool ((Ma.matz ((Ma.cut 10 y).1)).l), .bool ((Ma.matz ((Ma.cut 10 y).1)).f), .int .i64 ((Ma.matz ((Ma.cut 10 y).1)).fd), .int .i64 ((Ma.matz ((Ma.cut 10 y).1)).a), .int .i64 ((Ma.matz ((Ma.cut 10 y).1)).b), .int .i64 ((Ma.matz ((Ma.cut 10 y).1)).c)] 35
            rw [← hu_, ← hg_]
            have S60 : Hid (St w noB [blk g58 35 [.string (bstr ((Ma.matz ((Ma.cut 10 y).1)).n)), .bool ((Ma.matz ((Ma.cut 10 y).1)).s), .bool ((Ma.matz ((Ma.cut 10 y).1)).l), .bool ((Ma.matz ((Ma.cut 10 y).1)).f), .int .i64 ((Ma.matz ((Ma.cut 10 y).1)).fd), .int .i64 ((Ma.matz ((Ma.cut 10 y).1)).a), .int .i64 ((Ma.matz ((Ma.cut 10 y).1)).b), .int .i64 ((Ma.matz ((Ma.cut 10 y).1)).c)], blk g23 35 [.string (bstr ((Ma.matz ((Ma.cut 10 y).1)).n)), .bool ((Ma.matz ((Ma.cut 10 y).1)).s), .bool ((Ma.matz ((Ma.cut 10 y).1)).l), .bool ((Ma.matz ((Ma.cut 10 y).1)).f), .int .i64 ((Ma.matz ((Ma.cut 10 y).1)).fd), .int .i64 ((Ma.matz ((Ma.cut 10 y).1)).a), .int .i64 ((Ma.matz ((Ma.cut 10 y).1)).b), .int .i64 ((Ma.matz ((Ma.cut 10 y).1)).c)], own (.slice A n c) 35 8 n (mcs (Ma.tab ls))] U59) := Lib.hid hS_
            clear S53
            clear hg_ hu_ hS_ hg57
            have S61 : Hid (St w noB [own (.slice A n c) 35 8 n (mcs (Ma.tab ls)), blk g58 35 [.string (bstr ((Ma.matz ((Ma.cut 10 y).1)).n)), .bool ((Ma.matz ((Ma.cut 10 y).1)).s), .bool ((Ma.matz ((Ma.cut 10 y).1)).l), .bool ((Ma.matz ((Ma.cut 10 y).1)).f), .int .i64 ((Ma.matz ((Ma.cut 10 y).1)).fd), .int .i64 ((Ma.matz ((Ma.cut 10 y).1)).a), .int .i64 ((Ma.matz ((Ma.cut 10 y).1)).b), .int .i64 ((Ma.matz ((Ma.cut 10 y).1)).c)], blk g23 35 [.string (bstr ((Ma.matz ((Ma.cut 10 y).1)).n)), .bool ((Ma.matz ((Ma.cut 10 y).1)).s), .bool ((Ma.matz ((Ma.cut 10 y).1)).l), .bool ((Ma.matz ((Ma.cut 10 y).1)).f), .int .i64 ((Ma.matz ((Ma.cut 10 y).1)).fd), .int .i64 ((Ma.matz ((Ma.cut 10 y).1)).a), .int .i64 ((Ma.matz ((Ma.cut 10 y).1)).b), .int .i64 ((Ma.matz ((Ma.cut 10 y).1)).c)]] U59) := Lib.hid (S60.out.front 2 rfl)
            clear S60
            refine wpG_appS (some 42) rfl rfl (.tmp 39) (.tmp 41) 22 22 rfl 35 8 56 Tryd.underlying22 (by kernel_rfl) (.slice A n c) n (mcs (Ma.tab ls)) S61.out (.slice (some ⟨g58, 0, none⟩) 1 1) 1 [.string (bstr ((Ma.matz ((Ma.cut 10 y).1)).n)), .bool ((Ma.matz ((Ma.cut 10 y).1)).s), .bool ((Ma.matz ((Ma.cut 10 y).1)).l), .bool ((Ma.matz ((Ma.cut 10 y).1)).f), .int .i64 ((Ma.matz ((Ma.cut 10 y).1)).fd), .int .i64 ((Ma.matz ((Ma.cut 10 y).1)).a), .int .i64 ((Ma.matz ((Ma.cut 10 y).1)).b), .int .i64 ((Ma.matz ((Ma.cut 10 y).1)).c)] (fun W hg => src_lies Tryd.underlying22 1 rfl (fun h => by cases h) (by intro u hu; simp at hu; rcases hu with rfl | rfl | rfl | rfl | rfl | rfl | rfl | rfl <;> rfl) ((S61.out.gr hg).liesBlk 1 rfl)) rfl rfl (by simp only [maxLen]; omega) (by omega) (fun v62 W63 hS_ => ?_)
            simp only [n1, n3, n4]
            obtain ⟨A64, k65, rfl, hle_, hcap_, _⟩ := own_shape (hS_.ownr 0 rfl)
            have S66 : Hid (St w noB [own (.slice A64 (n + 1) k65) 35 8 (n + 1) (mcs (Ma.tab ls) ++ [.string (bstr ((Ma.matz ((Ma.cut 10 y).1)).n)), .bool ((Ma.matz ((Ma.cut 10 y).1)).s), .bool ((Ma.matz ((Ma.cut 10 y).1)).l), .bool ((Ma.matz ((Ma.cut 10 y).1)).f), .int .i64 ((Ma.matz ((Ma.cut 10 y).1)).fd), .int .i64 ((Ma.matz ((Ma.cut 10 y).1)).a), .int .i64 ((Ma.matz ((Ma.cut 10 y).1)).b), .int .i64 ((Ma.matz ((Ma.cut 10 y).1)).c)]), blk g58 35 [.string (bstr ((Ma.matz ((Ma.cut 10 y).1)).n)), .bool ((Ma.matz ((Ma.cut 10 y).1)).s), .bool ((Ma.matz ((Ma.cut 10 y).1)).l), .bool ((Ma.matz ((Ma.cut 10 y).1)).f), .int .i64 ((Ma.matz ((Ma.cut 10 y).1)).fd), .int .i64 ((Ma.matz ((Ma.cut 10 y).1)).a), .int .i64 ((Ma.matz ((Ma.cut 10 y).1)).b), .int .i64 ((Ma.matz ((Ma.cut 10 y).1)).c)], blk g23 35 [.string (bstr ((Ma.matz ((Ma.cut 10 y).1)).n)), .bool ((Ma.matz ((Ma.cut 10 y).1)).s), .bool ((Ma.matz ((Ma.cut 10 y).1)).l), .bool ((Ma.matz ((Ma.cut 10 y).1)).f), .int .i64 ((Ma.matz ((Ma.cut 10 y).1)).fd), .int .i64 ((Ma.matz ((Ma.cut 10 y).1)).a), .int .i64 ((Ma.matz ((Ma.cut 10 y).1)).b), .int .i64 ((Ma.matz ((Ma.cut 10 y).1)).c)]] W63) := Lib.hid hS_
            clear S61
            clear hS_
            refine @wpG_p _ _ _ _ _ (some 5) (.slice A64 (n + 1) k65) _ _ rfl (by rfl) (fun _ => rfl) ?_
            simp only [n1, n3, n4]
            refine wpG_done (fun V67 hv68 => ?_)
            have S69 : Hid (St w noB [own (.slice A64 (n + 1) k65) 35 8 (n + 1) (mcs (Ma.tab ls) ++ [.string (bstr ((Ma.matz ((Ma.cut 10 y).1)).n)), .bool ((Ma.matz ((Ma.cut 10 y).1)).s), .bool ((Ma.matz ((Ma.cut 10 y).1)).l), .bool ((Ma.matz ((Ma.cut 10 y).1)).f), .int .i64 ((Ma.matz ((Ma.cut 10 y).1)).fd), .int .i64 ((Ma.matz ((Ma.cut 10 y).1)).a), .int .i64 ((Ma.matz ((Ma.cut 10 y).1)).b), .int .i64 ((Ma.matz ((Ma.cut 10 y).1)).c)]), blk g58 35 [.string (bstr ((Ma.matz ((Ma.cut 10 y).1)).n)), .bool ((Ma.matz ((Ma.cut 10 y).1)).s), .bool ((Ma.matz ((Ma.cut 10 y).1)).l), .bool ((Ma.matz ((Ma.cut 10 y).1)).f), .int .i64 ((Ma.matz ((Ma.cut 10 y).1)).fd), .int .i64 ((Ma.matz ((Ma.cut 10 y).1)).a), .int .i64 ((Ma.matz ((Ma.cut 10 y).1)).b), .int .i64 ((Ma.matz ((Ma.cut 10 y).1)).c)], blk g23 35 [.string (bstr ((Ma.matz ((Ma.cut 10 y).1)).n)), .bool ((Ma.matz ((Ma.cut 10 y).1)).s), .bool ((Ma.matz ((Ma.cut 10 y).1)).l), .bool ((Ma.matz ((Ma.cut 10 y).1)).f), .int .i64 ((Ma.matz ((Ma.cut 10 y).1)).fd), .int .i64 ((Ma.matz ((Ma.cut 10 y).1)).a), .int .i64 ((Ma.matz ((Ma.cut 10 y).1)).b), .int .i64 ((Ma.matz ((Ma.cut 10 y).1)).c)]] V67) := Lib.hid (S66.out.gr hv68)
            clear S66
            clear hv68
            refine ⟨rfl, hK _ _ ?_⟩
            clear hK
            go_upto_region 11 with fail
            refine wpG_region_k (fun K hK => ?_)
            refine @wpG_p _ _ _ _ _ (some 43) (.string (bstr ((Ma.cut 10 y).2.1))) _ _ rfl (by rfl) (fun _ => rfl) ?_
            simp only [n1, n3, n4]
            refine @wpG_p _ _ _ _ _ (some 0) (.string (bstr ((Ma.cut 10 y).2.1))) _ _ rfl (by rfl) (fun _ => rfl) ?_
            simp only [n1, n3]
            refine wpG_done (fun V70 hv71 => ?_)
            have S72 : Hid (St w noB [own (.slice A64 (n + 1) k65) 35 8 (n + 1) (mcs (Ma.tab ls) ++ [.string (bstr ((Ma.matz ((Ma.cut 10 y).1)).n)), .bool ((Ma.matz ((Ma.cut 10 y).1)).s), .bool ((Ma.matz ((Ma.cut 10 y).1)).l), .bool ((Ma.matz ((Ma.cut 10 y).1)).f), .int .i64 ((Ma.matz ((Ma.cut 10 y).1)).fd), .int .i64 ((Ma.matz ((Ma.cut 10 y).1)).a), .int .i64 ((Ma.matz ((Ma.cut 10 y).1)).b), .int .i64 ((Ma.matz ((Ma.cut 10 y).1)).c)]), blk g58 35 [.string (bstr ((Ma.matz ((Ma.cut 10 y).1)).n)), .bool ((Ma.matz ((Ma.cut 10 y).1)).s), .bool ((Ma.matz ((Ma.cut 10 y).1)).l), .bool ((Ma.matz ((Ma.cut 10 y).1)).f), .int .i64 ((Ma.matz ((Ma.cut 10 y).1)).fd), .int .i64 ((Ma.matz ((Ma.cut 10 y).1)).a), .int .i64 ((Ma.matz ((Ma.cut 10 y).1)).b), .int .i64 ((Ma.matz ((Ma.cut 10 y).1)).c)], blk g23 35 [.string (bstr ((Ma.matz ((Ma.cut 10 y).1)).n)), .bool ((Ma.matz ((Ma.cut 10 y).1)).s), .bool ((Ma.matz ((Ma.cut 10 y).1)).l), .bool ((Ma.matz ((Ma.cut 10 y).1)).f), .int .i64 ((Ma.matz ((Ma.cut 10 y).1)).fd), .int .i64 ((Ma.matz ((Ma.cut 10 y).1)).a), .int .i64 ((Ma.matz ((Ma.cut 10 y).1)).b), .int .i64 ((Ma.matz ((Ma.cut 10 y).1)).c)]] V70) := Lib.hid (S69.out.gr hv71)
            clear S69
            clear hv71
            refine ⟨rfl, hK _ _ ?_⟩
            clear hK
            go_upto_region 4 with fail
            refine wpG_region_k (fun K hK => ?_)
            refine @wpG_p _ _ _ _ _ (some 16) (.int .i64 ((ls.length : Int) + 1)) _ _ rfl (by rfl) (fun _ => rfl) ?_
            simp only [n1, n3, n4]
            refine @wpG_p _ _ _ _ _ (some 17) (.int .i64 (((ls.length : Int) + 1) + 1)) _ _ rfl (by rfl) (fun W => op_i_add W ((ls.length : Int) + 1) 1 (by first | omega | (have hr_ := Ma.check_rng (Ma.tab ls); omega)) rfl rfl rfl Tryd.underlying3) ?_
            simp only [n1, n3, n4]
            refine @wpG_p _ _ _ _ _ (some 6) (.int .i64 (((ls.length : Int) + 1) + 1)) _ _ rfl (by rfl) (fun _ => rfl) ?_
            simp only [n1, n3, n4]
            refine wpG_done (fun V73 hv74 => ?_)
            have S75 : Hid (St w noB [own (.slice A64 (n + 1) k65) 35 8 (n + 1) (mcs (Ma.tab ls) ++ [.string (bstr ((Ma.matz ((Ma.cut 10 y).1)).n)), .bool ((Ma.matz ((Ma.cut 10 y).1)).s), .bool ((Ma.matz ((Ma.cut 10 y).1)).l), .bool ((Ma.matz ((Ma.cut 10 y).1)).f), .int .i64 ((Ma.matz ((Ma.cut 10 y).1)).fd), .int .i64 ((Ma.matz ((Ma.cut 10 y).1)).a), .int .i64 ((Ma.matz ((Ma.cut 10 y).1)).b), .int .i64 ((Ma.matz ((Ma.cut 10 y).1)).c)]), blk g58 35 [.string (bstr ((Ma.matz ((Ma.cut 10 y).1)).n)), .bool ((Ma.matz ((Ma.cut 10 y).1)).s), .bool ((Ma.matz ((Ma.cut 10 y).1)).l), .bool ((Ma.matz ((Ma.cut 10 y).1)).f), .int .i64 ((Ma.matz ((Ma.cut 10 y).1)).fd), .int .i64 ((Ma.matz ((Ma.cut 10 y).1)).a), .int .i64 ((Ma.matz ((Ma.cut 10 y).1)).b), .int .i64 ((Ma.matz ((Ma.cut 10 y).1)).c)], blk g23 35 [.string (bstr ((Ma.matz ((Ma.cut 10 y).1)).n)), .bool ((Ma.matz ((Ma.cut 10 y).1)).s), .bool ((Ma.matz ((Ma.cut 10 y).1)).l), .bool ((Ma.matz ((Ma.cut 10 y).1)).f), .int .i64 ((Ma.matz ((Ma.cut 10 y).1)).fd), .int .i64 ((Ma.matz ((Ma.cut 10 y).1)).a), .int .i64 ((Ma.matz ((Ma.cut 10 y).1)).b), .int .i64 ((Ma.matz ((Ma.cut 10 y).1)).c)]] V73) := Lib.hid (S72.out.gr hv74)
            clear S72
            clear hv74
            refine ⟨rfl, hK _ _ ?_⟩
            clear hK
            go_wp2_with fail
            have hy1 := Ma.pos_of f17
            go_roundw
            have hn256 : (Ma.tab ls).length ≤ 256 := by have := HN.out; omega
            have hl2 : (ls ++ [(Ma.cut 10 y).1]).length = ls.length + 1 := by simp
            have hl3 : ((ls.length : Int) + 1) + 1 = ((ls ++ [(Ma.cut 10 y).1]).length : Int) + 1 := by rw [hl2]; rfl
            rw [hl3]
            clear hl3
            have S76 : Hid (St w noB [own (.slice A64 (n + 1) k65) 35 8 (n + 1) (mcs (Ma.tab ls) ++ [.string (bstr ((Ma.matz ((Ma.cut 10 y).1)).n)), .bool ((Ma.matz ((Ma.cut 10 y).1)).s), .bool ((Ma.matz ((Ma.cut 10 y).1)).l), .bool ((Ma.matz ((Ma.cut 10 y).1)).f), .int .i64 ((Ma.matz ((Ma.cut 10 y).1)).fd), .int .i64 ((Ma.matz ((Ma.cut 10 y).1)).a), .int .i64 ((Ma.matz ((Ma.cut 10 y).1)).b), .int .i64 ((Ma.matz ((Ma.cut 10 y).1)).c)])] V73) := Lib.hid (S75.out.sub (.cons_cons _ (.cons _ (.cons _ .slnil))))
            clear S75
            case rel => exact ⟨A64, n + 1, k65, ls ++ [(Ma.cut 10 y).1], (Ma.cut 10 y).2.1, (by first | rfl | go_num), (by first | rfl | go_num), (by first | rfl | go_num), (by have e_f41 := f41.out; have e_f50 := f50.out; exact Ma.pstep HP_.out e_f41 e_f50), (by have e_f41 := f41.out; have e_f50 := f50.out; rw [Ma.tab_more hn256 (Ma.matz_is e_f50), mcs_append, mcs_one]; exact S76.out)⟩
            case measure => first | (simp only [intOf]; omega) | (simp [intOf]; done) | (simp [intOf]; omega) | omega
          | false =>
            have f77 := of_decide_eq_false Hc54.out.symm
            go_upto_region 11 with fail
            refine wpG_region_k (fun K hK => ?_)
            refine @wpG_p _ _ _ _ _ (some 43) (.string (bstr ((Ma.cut 10 y).2.1))) _ _ rfl (by rfl) (fun _ => rfl) ?_
            simp only [n1, n3, n4]
            refine @wpG_p _ _ _ _ _ (some 0) (.string (bstr ((Ma.cut 10 y).2.1))) _ _ rfl (by rfl) (fun _ => rfl) ?_
            simp only [n1, n3]
            refine wpG_done (fun V78 hv79 => ?_)
            have S80 : Hid (St w noB [blk g23 35 [.string (bstr ((Ma.matz ((Ma.cut 10 y).1)).n)), .bool ((Ma.matz ((Ma.cut 10 y).1)).s), .bool ((Ma.matz ((Ma.cut 10 y).1)).l), .bool ((Ma.matz ((Ma.cut 10 y).1)).f), .int .i64 ((Ma.matz ((Ma.cut 10 y).1)).fd), .int .i64 ((Ma.matz ((Ma.cut 10 y).1)).a), .int .i64 ((Ma.matz ((Ma.cut 10 y).1)).b), .int .i64 ((Ma.matz ((Ma.cut 10 y).1)).c)], own (.slice A n c) 35 8 n (mcs (Ma.tab ls))] V78) := Lib.hid (S53.out.gr hv79)
            clear S53
            clear hv79
            refine ⟨rfl, hK _ _ ?_⟩
            clear hK
            go_upto_region 4 with fail
            refine wpG_region_k (fun K hK => ?_)
            refine @wpG_p _ _ _ _ _ (some 16) (.int .i64 ((ls.length : Int) + 1)) _ _ rfl (by rfl) (fun _ => rfl) ?_
            simp only [n1, n3, n4]
            refine @wpG_p _ _ _ _ _ (some 17) (.int .i64 (((ls.length : Int) + 1) + 1)) _ _ rfl (by rfl) (fun W => op_i_add W ((ls.length : Int) + 1) 1 (by first | omega | (have hr_ := Ma.check_rng (Ma.tab ls); omega)) rfl rfl rfl Tryd.underlying3) ?_
            simp only [n1, n3, n4]
            refine @wpG_p _ _ _ _ _ (some 6) (.int .i64 (((ls.length : Int) + 1) + 1)) _ _ rfl (by rfl) (fun _ => rfl) ?_
            simp only [n1, n3, n4]
            refine wpG_done (fun V81 hv82 => ?_)
            have S83 : Hid (St w noB [blk g23 35 [.string (bstr ((Ma.matz ((Ma.cut 10 y).1)).n)), .bool ((Ma.matz ((Ma.cut 10 y).1)).s), .bool ((Ma.matz ((Ma.cut 10 y).1)).l), .bool ((Ma.matz ((Ma.cut 10 y).1)).f), .int .i64 ((Ma.matz ((Ma.cut 10 y).1)).fd), .int .i64 ((Ma.matz ((Ma.cut 10 y).1)).a), .int .i64 ((Ma.matz ((Ma.cut 10 y).1)).b), .int .i64 ((Ma.matz ((Ma.cut 10 y).1)).c)], own (.slice A n c) 35 8 n (mcs (Ma.tab ls))] V81) := Lib.hid (S80.out.gr hv82)
            clear S80
            clear hv82
            refine ⟨rfl, hK _ _ ?_⟩
            clear hK
            go_wp2_with fail
            have hy1 := Ma.pos_of f17
            go_roundw
            have hn256 : ¬ (Ma.tab ls).length ≤ 256 := by have := HN.out; omega
            have hl2 : (ls ++ [(Ma.cut 10 y).1]).length = ls.length + 1 := by simp
            have hl3 : ((ls.length : Int) + 1) + 1 = ((ls ++ [(Ma.cut 10 y).1]).length : Int) + 1 := by rw [hl2]; rfl
            rw [hl3]
            clear hl3
            have S84 : Hid (St w noB [own (.slice A n c) 35 8 n (mcs (Ma.tab ls))] V81) := Lib.hid (S83.out.sub (.cons _ (.cons_cons _ .slnil)))
            clear S83
            case rel => exact ⟨A, n, c, ls ++ [(Ma.cut 10 y).1], (Ma.cut 10 y).2.1, (by first | rfl | go_num), (by first | rfl | go_num), (by first | rfl | go_num), (by have e_f41 := f41.out; have e_f50 := f50.out; exact Ma.pstep HP_.out e_f41 e_f50), (by have e_f41 := f41.out; have e_f50 := f50.out; rw [Ma.tab_full hn256 (Ma.matz_is e_f50)]; exact S84.out)⟩
            case measure => first | (simp only [intOf]; omega) | (simp [intOf]; done) | (simp [intOf]; omega) | omega
    | false =>
      have f85 := Lib.hid (Decidable.not_not.1 (of_decide_eq_false Hc16.out.symm))
      go_upto_region 12 with fail
      refine wpG_region_k (fun K hK => ?_)
      refine @wpG_p _ _ _ _ _ (some 45) (.slice A n c) _ _ rfl (by rfl) (fun _ => rfl) ?_
      simp only [n1, n3, n4]
      refine @wpG_tk _ _ _ _ _ (some 46) (.tuple #[.int .i64 ((Ma.check (Ma.tab ls)).1), .int .i64 ((Ma.check (Ma.tab ls)).2)]) _ _ rfl (.call (f := 11) (args := #[.slice A n c]) (by rfl) (fun W => by go_simp) (fun W hg => check_any _ _ _ (Ma.tab ls) W (Tbl.ofOwn ((S15.out.gr hg).ownr 0 rfl)) (HK.out.gr (S15.out.gr hg).bel))) ?_
      simp only [n1, n3, n4]
      refine @wpG_p _ _ _ _ _ (some 44) (.tuple #[.int .i64 ((Ma.check (Ma.tab ls)).1), .int .i64 ((Ma.check (Ma.tab ls)).2)]) _ _ rfl (by rfl) (fun _ => rfl) ?_
      simp only [n1, n3, n4]
      refine @wpG_p _ _ _ _ _ (some 47) (.int .i64 ((Ma.check (Ma.tab ls)).1)) _ _ rfl (by rfl) (fun W => by go_simp) ?_
      simp only [n1, n3, n4]
      refine @wpG_p _ _ _ _ _ (some 48) (.int .i64 ((Ma.check (Ma.tab ls)).2)) _ _ rfl (by rfl) (fun W => by go_simp) ?_
      simp only [n1, n3, n4]
      refine @wpG_p _ _ _ _ _ (some 12) (.int .i64 ((Ma.check (Ma.tab ls)).1)) _ _ rfl (by rfl) (fun _ => rfl) ?_
      simp only [n1, n3, n4]
      refine @wpG_p _ _ _ _ _ (some 13) (.int .i64 ((Ma.check (Ma.tab ls)).2)) _ _ rfl (by rfl) (fun _ => rfl) ?_
      simp only [n1, n3, n4]
      refine wpG_done (fun V86 hv87 => ?_)
      have S88 : Hid (St w noB [own (.slice A n c) 35 8 n (mcs (Ma.tab ls))] V86) := Lib.hid (S15.out.gr hv87)
      clear S15
      clear hv87
      refine ⟨rfl, hK _ _ ?_⟩
      clear hK
      go_upto_region 13 with fail
      refine wpG_region_k (fun K hK => ?_)
      refine @wpG_p _ _ _ _ _ (some 49) (.int .i64 ((Ma.check (Ma.tab ls)).2)) _ _ rfl (by rfl) (fun _ => rfl) ?_
      simp only [n1, n3, n4]
      refine @wpG_p _ _ _ _ _ (some 50) (.bool (decide ((Ma.check (Ma.tab ls)).2 ≠ 0))) _ _ rfl (by rfl) (fun W => op_int_neq W ((Ma.check (Ma.tab ls)).2) 0 rfl rfl rfl Tryd.underlying25) ?_
      simp only [n1, n3, n4]
      refine wpG_done (fun V89 hv90 => ?_)
      have S91 : Hid (St w noB [own (.slice A n c) 35 8 n (mcs (Ma.tab ls))] V89) := Lib.hid (S88.out.gr hv90)
      clear S88
      clear hv90
      refine ⟨rfl, hK _ _ ?_⟩
      clear hK
      obtain ⟨c92, hc92⟩ : ∃ q_, q_ = (decide ((Ma.check (Ma.tab ls)).2 ≠ 0)) := ⟨_, rfl⟩
      rw [← hc92]
      have Hc92 := Lib.hid hc92
      clear hc92
      cases c92 with
      | true =>
        have f93 := of_decide_eq_true Hc92.out.symm
        go_upto_region 14 with fail
        refine wpG_region_k (fun K hK => ?_)
        refine @wpG_p _ _ _ _ _ (some 51) (.int .i64 ((Ma.check (Ma.tab ls)).1)) _ _ rfl (by rfl) (fun _ => rfl) ?_
        simp only [n1, n3, n4]
        refine @wpG_p _ _ _ _ _ (some 52) (.int .i64 (((Ma.check (Ma.tab ls)).1) + 1)) _ _ rfl (by rfl) (fun W => op_i_add W ((Ma.check (Ma.tab ls)).1) 1 (by first | omega | (have hr_ := Ma.check_rng (Ma.tab ls); omega)) rfl rfl rfl Tryd.underlying3) ?_
        simp only [n1, n3, n4]
        refine @wpG_p _ _ _ _ _ (some 53) (.int .i64 ((Ma.check (Ma.tab ls)).2)) _ _ rfl (by rfl) (fun _ => rfl) ?_
        simp only [n1, n3, n4]
        refine @wpG_p _ _ _ _ _ (some 2) (.slice none 0 0) _ _ rfl (by rfl) (fun _ => rfl) ?_
        simp only [n1, n3, n4]
        refine @wpG_p _ _ _ _ _ (some 3) (.int .i64 (((Ma.check (Ma.tab ls)).1) + 1)) _ _ rfl (by rfl) (fun _ => rfl) ?_
        simp only [n1, n3, n4]
        refine @wpG_p _ _ _ _ _ (some 4) (.int .i64 ((Ma.check (Ma.tab ls)).2)) _ _ rfl (by rfl) (fun _ => rfl) ?_
        simp only [n1, n3, n4]
        refine wpG_done (fun V94 hv95 => ?_)
        have S96 : Hid (St w noB [own (.slice A n c) 35 8 n (mcs (Ma.tab ls))] V94) := Lib.hid (S91.out.gr hv95)
        clear S91
        clear hv95
        refine ⟨rfl, hK _ _ ?_⟩
        clear hK
        go_wp2_with fail
        go_ret3
        (have e_f85 := f85.out; have hq := Ma.qdone_bad (by have h_ := HP_.out; rw [e_f85] at h_; exact h_) f93; exact ⟨none, 0, 0, by rw [hq]; try rfl, by rw [hq]; exact S96.out.dropAll.nilOwn _ _⟩)
      | false =>
        have f97 := Lib.hid (Decidable.not_not.1 (of_decide_eq_false Hc92.out.symm))
        have f97a := Int.le_of_eq f97.out
        have f97b := Int.le_of_eq f97.out.symm
        go_upto_region 15 with fail
        refine wpG_region_k (fun K hK => ?_)
        refine @wpG_p _ _ _ _ _ (some 54) (.slice A n c) _ _ rfl (by rfl) (fun _ => rfl) ?_
        simp only [n1, n3, n4]
        refine @wpG_p _ _ _ _ _ (some 2) (.slice A n c) _ _ rfl (by rfl) (fun _ => rfl) ?_
        simp only [n1, n3, n4]
        refine @wpG_p _ _ _ _ _ (some 3) (.int .i64 0) _ _ rfl (by rfl) (fun _ => rfl) ?_
        simp only [n1, n3, n4]
        refine @wpG_p _ _ _ _ _ (some 4) (.int .i64 0) _ _ rfl (by rfl) (fun _ => rfl) ?_
        simp only [n1, n3, n4]
        refine wpG_done (fun V98 hv99 => ?_)
        have S100 : Hid (St w noB [own (.slice A n c) 35 8 n (mcs (Ma.tab ls))] V98) := Lib.hid (S91.out.gr hv99)
        clear S91
        clear hv99
        refine ⟨rfl, hK _ _ ?_⟩
        clear hK
        go_wp2_with fail
        go_ret3
        (have e_f85 := f85.out; have e_f97 := f97.out; have hq := Ma.qdone_good (by have h_ := HP_.out; rw [e_f85] at h_; exact h_) e_f97; exact ⟨A, n, c, by rw [hq]; try rfl, by rw [hq]; exact S100.out⟩)

end Go.Proofs.YtpjjddjoegnipaaDoor
