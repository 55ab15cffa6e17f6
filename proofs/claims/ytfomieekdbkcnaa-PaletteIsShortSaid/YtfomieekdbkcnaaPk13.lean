/-
  Contracts of package palette: gather.
-/
import Derived.Test.YtfomieekdbkcnaaPk12
import Derived.Handy
namespace Go.Proofs.Ytfomieekdbkcnaa
open Go Go.RowKit
set_option linter.unusedVariables false
set_option linter.unusedSimpArgs false
set_option maxRecDepth 1000000 in
set_option maxHeartbeats 4000000 in
theorem gather_int (x : List UInt8) (n k m gn gu gl : Nat) (A : Option Addr) (c : Nat) (p : List Int) (F : Nat → Prop) (w : World) (hx : x.length ≤ 64) (hn : n ≤ 64) (hk : k ≤ 8) (hp : p.length ≤ 64) (hB : Sts [blk gu 3 [.int .i64 0], blk gl 22 [.slice A m c], blk gn 3 [.int .i64 (n : Int)], own (.slice A m c) 3 1 m (ic p)] w F) :
    Calls Try.prog 38 #[.string (bstr x), .int .i64 (n : Int), .int .i64 (k : Int), .func (.func 50) #[] #[.pointer (some ⟨gn, 0, none⟩), .pointer (some ⟨gu, 0, none⟩), .pointer (some ⟨gl, 0, none⟩)]] w fun e w' => ∃ E q d, e = .returned (.tuple #[.slice E q d, .bool (Pl.gok m n k x)]) ∧ q ≤ n ∧ (Pl.gok m n k x = true → n * k ≤ x.length * 8 → q = n) ∧ St w F [own (.slice E q d) 3 1 q (ic (Pl.cellsOf p (Pl.fld k (Pl.V x)) q))] w' := by
  have HML : Hid (p.length = m) := Lib.hid (own_icl ((St.borrow hB).ownr 3 rfl)).symm
  have hmb_ : m ≤ 64 := by have := HML.out; omega
  have S1 : Hid (St w F [blk gu 3 [.int .i64 0], blk gl 22 [.slice A m c], blk gn 3 [.int .i64 (n : Int)], own (.slice A m c) 3 1 m (ic p)] w) := Lib.hid (St.borrow hB)
  go_enter Try.func38, Try.ntmps38
  go_upto_region 0 with fail
  refine wpG_region_k (fun K hK => ?_)
  refine @wpG_p _ _ _ _ _ (some 8) (.slice none 0 0) _ _ rfl (by rfl) (fun _ => rfl) ?_
  simp only [n1, n3, n4]
  refine @wpG_p _ _ _ _ _ (some 9) (.bool false) _ _ rfl (by rfl) (fun _ => rfl) ?_
  simp only [n1, n3, n4]
  refine wpG_done (fun V2 hv3 => ?_)
  have S4 : Hid (St w F [blk gu 3 [.int .i64 0], blk gl 22 [.slice A m c], blk gn 3 [.int .i64 (n : Int)], own (.slice A m c) 3 1 m (ic p)] V2) := Lib.hid (S1.out.gr hv3)
  clear S1
  clear hv3
  refine ⟨rfl, hK _ _ ?_⟩
  clear hK
  go_upto_region 1 with fail
  refine wpG_region_k (fun K hK => ?_)
  refine @wpG_p _ _ _ _ _ (some 17) (.int .i64 (n : Int)) _ _ rfl (by rfl) (fun _ => rfl) ?_
  simp only [n1, n3, n4]
  refine wpG_val (some 18) rfl (by rfl) (fun W5 hg6 => ?_)
  refine makez_ex 22 3 (.int .i64 0) rfl 8 (.const (.int .i64 0)) (.tmp 17) rfl Try.underlying22 (by kernel_rfl) 0 n rfl rfl (by omega) (by omega) (by decide) W5 (S4.out.gr hg6) (fun g8 U7 hS_ => ?_)
  clear hg6
  simp only [n1, n3, n4]
  rw [show List.replicate 0 (.int .i64 0) = ic (Pl.cellsOf p (Pl.fld k (Pl.V x)) 0) from rfl] at hS_
  have S9 : Hid (St w F [own (.slice (some ⟨g8, 0, none⟩) 0 n) 3 1 0 (ic (Pl.cellsOf p (Pl.fld k (Pl.V x)) 0)), blk gu 3 [.int .i64 0], blk gl 22 [.slice A m c], blk gn 3 [.int .i64 (n : Int)], own (.slice A m c) 3 1 m (ic p)] U7) := Lib.hid hS_
  clear S4
  clear hS_
  refine @wpG_p _ _ _ _ _ (some 10) (.slice (some ⟨g8, 0, none⟩) 0 n) _ _ rfl (by rfl) (fun _ => rfl) ?_
  simp only [n1, n3, n4]
  refine wpG_done (fun V10 hv11 => ?_)
  have S12 : Hid (St w F [own (.slice (some ⟨g8, 0, none⟩) 0 n) 3 1 0 (ic (Pl.cellsOf p (Pl.fld k (Pl.V x)) 0)), blk gu 3 [.int .i64 0], blk gl 22 [.slice A m c], blk gn 3 [.int .i64 (n : Int)], own (.slice A m c) 3 1 m (ic p)] V10) := Lib.hid (S9.out.gr hv11)
  clear S9
  clear hv11
  refine ⟨rfl, hK _ _ ?_⟩
  clear hK
  go_upto_region 2 with fail
  refine wpG_region_k (fun K hK => ?_)
  refine @wpG_p _ _ _ _ _ (some 11) (.int .i64 0) _ _ rfl (by rfl) (fun _ => rfl) ?_
  simp only [n1, n3, n4]
  refine wpG_done (fun V13 hv14 => ?_)
  have S15 : Hid (St w F [own (.slice (some ⟨g8, 0, none⟩) 0 n) 3 1 0 (ic (Pl.cellsOf p (Pl.fld k (Pl.V x)) 0)), blk gu 3 [.int .i64 0], blk gl 22 [.slice A m c], blk gn 3 [.int .i64 (n : Int)], own (.slice A m c) 3 1 m (ic p)] V13) := Lib.hid (S12.out.gr hv14)
  clear S12
  clear hv14
  refine ⟨rfl, hK _ _ ?_⟩
  clear hK
  go_wp2_with fail
  go_loopw [10, 11] (fun v10 v11 wr => ∃ (E : Option Addr) (d i U : Nat) (N : Int), v10 = .slice E i d ∧ v11 = .int .i64 (i : Int) ∧ i ≤ n ∧ N = (n : Int) - (i : Int) ∧ U = Pl.sn (Pl.fld k (Pl.V x)) i ∧ (∀ j, j < i → Pl.okS m n (Pl.fld k (Pl.V x)) j ∧ (j + 1) * k ≤ x.length * 8) ∧ St w F [own (.slice E i d) 3 1 i (ic (Pl.cellsOf p (Pl.fld k (Pl.V x)) i)), blk gu 3 [.int .i64 (U : Int)], blk gl 22 [.slice A m c], blk gn 3 [.int .i64 N], own (.slice A m c) 3 1 m (ic p)] wr) (fun a i _ => n - (intOf i).toNat)
  case atStart => exact ⟨some ⟨g8, 0, none⟩, n, 0, 0, (n : Int), rfl, rfl, Nat.zero_le _, (by omega), rfl, (fun j hj => absurd hj (Nat.not_lt_zero _)), S15.out⟩
  case round =>
    obtain ⟨E, d, i, U, N, rfl, rfl, hin, hne, hue, hok, hS⟩ := hrel
    have HNE := Lib.hid hne
    clear hne
    have HUE := Lib.hid hue
    clear hue
    have HOK := Lib.hid hok
    clear hok
    have SL := Lib.hid hS
    clear S15 hS
    have S16 := SL
    clear SL
    have hNb_ : -1 ≤ N ∧ N ≤ 64 := by have := HNE.out; omega
    have hUb_ : U ≤ 64 := by have h1_ := HUE.out; have h2_ := Pl.sn_le (Pl.fld k (Pl.V x)) i; omega
    go_upto_region 3 with fail
    refine wpG_region_k (fun K hK => ?_)
    refine @wpG_p _ _ _ _ _ (some 19) (.int .i64 (i : Int)) _ _ rfl (by rfl) (fun _ => rfl) ?_
    simp only [n1, n3, n4]
    refine @wpG_p _ _ _ _ _ (some 20) (.int .i64 (n : Int)) _ _ rfl (by rfl) (fun _ => rfl) ?_
    simp only [n1, n3, n4]
    refine @wpG_p _ _ _ _ _ (some 21) (.bool (decide ((i : Int) < (n : Int)))) _ _ rfl (by rfl) (fun W => op_int_lss W (i : Int) (n : Int) rfl rfl rfl Try.underlying3) ?_
    simp only [n1, n3, n4]
    refine @wpG_p _ _ _ _ _ (some 22) (.bool (decide ((i : Int) < (n : Int)))) _ _ rfl (by rfl) (fun _ => rfl) ?_
    simp only [n1, n3, n4]
    obtain ⟨c17, hc17⟩ : ∃ q_, q_ = (decide ((i : Int) < (n : Int))) := ⟨_, rfl⟩
    rw [← hc17]
    have Hc17 := Lib.hid hc17
    clear hc17
    cases c17 with
    | true =>
      have f18 := of_decide_eq_true Hc17.out.symm
      refine @wpG_p _ _ _ _ _ (some 23) (.int .i64 (i : Int)) _ _ rfl (by rfl) (fun _ => rfl) ?_
      simp only [n1, n3, n4]
      obtain ⟨i1, h_i1⟩ : ∃ q_ : Nat, q_ = i + 1 := ⟨_, rfl⟩
      have hi1b : i1 ≤ 65 ∧ i1 = i + 1 := by omega
      have Hi1 := Lib.hid h_i1
      clear h_i1
      refine @wpG_p _ _ _ _ _ (some 24) (.int .i64 (i1 : Int)) _ _ rfl (by rfl) (fun W => op_n_add i 1 i1 Hi1.out.symm (by omega) rfl rfl rfl) ?_
      simp only [n1, n3, n4]
      refine @wpG_p _ _ _ _ _ (some 25) (.int .i64 (k : Int)) _ _ rfl (by rfl) (fun _ => rfl) ?_
      simp only [n1, n3, n4]
      obtain ⟨ik, h_ik⟩ : ∃ q_ : Nat, q_ = i1 * k := ⟨_, rfl⟩
      have hikb : ik ≤ 65 * 8 := by rw [h_ik]; exact Nat.mul_le_mul (by omega) (by omega)
      have Hik := Lib.hid h_ik
      clear h_ik
      refine @wpG_p _ _ _ _ _ (some 26) (.int .i64 (ik : Int)) _ _ rfl (by rfl) (fun W => op_n_mul i1 k ik Hik.out.symm (by omega) rfl rfl rfl) ?_
      simp only [n1, n3, n4]
      refine @wpG_p _ _ _ _ _ (some 27) (.string (bstr x)) _ _ rfl (by rfl) (fun _ => rfl) ?_
      simp only [n1, n3, n4]
      refine @wpG_p _ _ _ _ _ (some 28) (.int .i64 (x.length : Int)) _ _ rfl (by rfl) (fun W => op_str_len W x rfl rfl Try.underlying9) ?_
      simp only [n1, n3, n4]
      obtain ⟨L8, h_L8⟩ : ∃ q_ : Nat, q_ = x.length * 8 := ⟨_, rfl⟩
      have hL8b : L8 ≤ 512 ∧ L8 = x.length * 8 := by omega
      have HL8 := Lib.hid h_L8
      clear h_L8
      refine @wpG_p _ _ _ _ _ (some 29) (.int .i64 (L8 : Int)) _ _ rfl (by rfl) (fun W => op_n_mul x.length 8 L8 HL8.out.symm (by omega) rfl rfl rfl) ?_
      simp only [n1, n3, n4]
      refine @wpG_p _ _ _ _ _ (some 30) (.bool (decide ((ik : Int) ≤ (L8 : Int)))) _ _ rfl (by rfl) (fun W => op_int_leq W (ik : Int) (L8 : Int) rfl rfl rfl Try.underlying3) ?_
      simp only [n1, n3, n4]
      refine @wpG_p _ _ _ _ _ (some 31) (.bool (decide ((ik : Int) ≤ (L8 : Int)))) _ _ rfl (by rfl) (fun W => by go_simp) ?_
      simp only [n1, n3, n4]
      refine wpG_done (fun V19 hv20 => ?_)
      have S21 : Hid (St w F [own (.slice E i d) 3 1 i (ic (Pl.cellsOf p (Pl.fld k (Pl.V x)) i)), blk gu 3 [.int .i64 (U : Int)], blk gl 22 [.slice A m c], blk gn 3 [.int .i64 N], own (.slice A m c) 3 1 m (ic p)] V19) := Lib.hid (S16.out.gr hv20)
      clear S16
      clear hv20
      refine ⟨rfl, hK _ _ ?_⟩
      clear hK
      obtain ⟨c22, hc22⟩ : ∃ q_, q_ = (decide ((ik : Int) ≤ (L8 : Int))) := ⟨_, rfl⟩
      rw [← hc22]
      have Hc22 := Lib.hid hc22
      clear hc22
      cases c22 with
      | true =>
        have f23 := of_decide_eq_true Hc22.out.symm
        go_upto_region 5 with fail
        refine wpG_region_k (fun K hK => ?_)
        refine @wpG_p _ _ _ _ _ (some 12) (.int .i64 0) _ _ rfl (by rfl) (fun _ => rfl) ?_
        simp only [n1, n3, n4]
        refine wpG_done (fun V24 hv25 => ?_)
        have S26 : Hid (St w F [own (.slice E i d) 3 1 i (ic (Pl.cellsOf p (Pl.fld k (Pl.V x)) i)), blk gu 3 [.int .i64 (U : Int)], blk gl 22 [.slice A m c], blk gn 3 [.int .i64 N], own (.slice A m c) 3 1 m (ic p)] V24) := Lib.hid (S21.out.gr hv25)
        clear S21
        clear hv25
        refine ⟨rfl, hK _ _ ?_⟩
        clear hK
        go_upto_region 6 with fail
        refine wpG_region_k (fun K hK => ?_)
        refine @wpG_p _ _ _ _ _ (some 34) (.int .i64 (k : Int)) _ _ rfl (by rfl) (fun _ => rfl) ?_
        simp only [n1, n3, n4]
        refine @wpG_p _ _ _ _ _ (some 35) (.int .i64 0) _ _ rfl (by rfl) (fun _ => rfl) ?_
        simp only [n1, n3, n4]
        refine wpG_done (fun V27 hv28 => ?_)
        have S29 : Hid (St w F [own (.slice E i d) 3 1 i (ic (Pl.cellsOf p (Pl.fld k (Pl.V x)) i)), blk gu 3 [.int .i64 (U : Int)], blk gl 22 [.slice A m c], blk gn 3 [.int .i64 N], own (.slice A m c) 3 1 m (ic p)] V27) := Lib.hid (S26.out.gr hv28)
        clear S26
        clear hv28
        refine ⟨rfl, hK _ _ ?_⟩
        clear hK
        go_wp2_with fail
        go_loopw [12, 35] (fun v12 v35 wr => ∃ (b z : Nat), v12 = .int .i64 (z : Int) ∧ v35 = .int .i64 (b : Int) ∧ b ≤ k ∧ z = Pl.V x / 2 ^ (i * k) % 2 ^ b ∧ St w F [own (.slice E i d) 3 1 i (ic (Pl.cellsOf p (Pl.fld k (Pl.V x)) i)), blk gu 3 [.int .i64 (U : Int)], blk gl 22 [.slice A m c], blk gn 3 [.int .i64 N], own (.slice A m c) 3 1 m (ic p)] wr) (fun z i _ => k - (intOf i).toNat)
        case atStart => exact ⟨0, 0, rfl, rfl, Nat.zero_le _, (by rw [Nat.pow_zero, Nat.mod_one]), S29.out⟩
        case round =>
          obtain ⟨b, z, rfl, rfl, hbk, hze, hS⟩ := hrel
          have HZE := Lib.hid hze
          clear hze
          have SL := Lib.hid hS
          clear S29 hS
          have S30 := SL
          clear SL
          go_upto_region 7 with fail
          refine wpG_region_k (fun K hK => ?_)
          refine @wpG_p _ _ _ _ _ (some 36) (.bool (decide ((b : Int) < (k : Int)))) _ _ rfl (by rfl) (fun W => op_int_lss W (b : Int) (k : Int) rfl rfl rfl Try.underlying3) ?_
          simp only [n1, n3, n4]
          refine wpG_done (fun V31 hv32 => ?_)
          have S33 : Hid (St w F [own (.slice E i d) 3 1 i (ic (Pl.cellsOf p (Pl.fld k (Pl.V x)) i)), blk gu 3 [.int .i64 (U : Int)], blk gl 22 [.slice A m c], blk gn 3 [.int .i64 N], own (.slice A m c) 3 1 m (ic p)] V31) := Lib.hid (S30.out.gr hv32)
          clear S30
          clear hv32
          refine ⟨rfl, hK _ _ ?_⟩
          clear hK
          obtain ⟨c34, hc34⟩ : ∃ q_, q_ = (decide ((b : Int) < (k : Int))) := ⟨_, rfl⟩
          rw [← hc34]
          have Hc34 := Lib.hid hc34
          clear hc34
          cases c34 with
          | true =>
            have f35 := of_decide_eq_true Hc34.out.symm
            go_upto_region 8 with fail
            refine wpG_region_k (fun K hK => ?_)
            refine @wpG_p _ _ _ _ _ (some 37) (.int .i64 (b : Int)) _ _ rfl (by rfl) (fun _ => rfl) ?_
            simp only [n1, n3, n4]
            refine @wpG_p _ _ _ _ _ (some 13) (.int .i64 (b : Int)) _ _ rfl (by rfl) (fun _ => rfl) ?_
            simp only [n1, n3, n4]
            refine wpG_done (fun V36 hv37 => ?_)
            have S38 : Hid (St w F [own (.slice E i d) 3 1 i (ic (Pl.cellsOf p (Pl.fld k (Pl.V x)) i)), blk gu 3 [.int .i64 (U : Int)], blk gl 22 [.slice A m c], blk gn 3 [.int .i64 N], own (.slice A m c) 3 1 m (ic p)] V36) := Lib.hid (S33.out.gr hv37)
            clear S33
            clear hv37
            refine ⟨rfl, hK _ _ ?_⟩
            clear hK
            go_upto_region 9 with fail
            refine wpG_region_k (fun K hK => ?_)
            refine @wpG_p _ _ _ _ _ (some 38) (.int .i64 (z : Int)) _ _ rfl (by rfl) (fun _ => rfl) ?_
            simp only [n1, n3, n4]
            refine @wpG_p _ _ _ _ _ (some 39) (.string (bstr x)) _ _ rfl (by rfl) (fun _ => rfl) ?_
            simp only [n1, n3, n4]
            refine @wpG_p _ _ _ _ _ (some 40) (.int .i64 (i : Int)) _ _ rfl (by rfl) (fun _ => rfl) ?_
            simp only [n1, n3, n4]
            refine @wpG_p _ _ _ _ _ (some 41) (.int .i64 (k : Int)) _ _ rfl (by rfl) (fun _ => rfl) ?_
            simp only [n1, n3, n4]
            obtain ⟨iw, h_iw⟩ : ∃ q_ : Nat, q_ = i * k := ⟨_, rfl⟩
            have hiwb : iw ≤ 65 * 8 := by rw [h_iw]; exact Nat.mul_le_mul (by omega) (by omega)
            have hiwk : iw + k = ik := by rw [h_iw, Hik.out, Hi1.out, Nat.add_mul, Nat.one_mul]
            have Hiw := Lib.hid h_iw
            clear h_iw
            refine @wpG_p _ _ _ _ _ (some 42) (.int .i64 (iw : Int)) _ _ rfl (by rfl) (fun W => op_n_mul i k iw Hiw.out.symm (by omega) rfl rfl rfl) ?_
            simp only [n1, n3, n4]
            refine @wpG_p _ _ _ _ _ (some 43) (.int .i64 (b : Int)) _ _ rfl (by rfl) (fun _ => rfl) ?_
            simp only [n1, n3, n4]
            obtain ⟨at_, h_at_⟩ : ∃ q_ : Nat, q_ = iw + b := ⟨_, rfl⟩
            have hatb : at_ < L8 := by omega
            have Hat_ := Lib.hid h_at_
            clear h_at_
            refine @wpG_p _ _ _ _ _ (some 44) (.int .i64 (at_ : Int)) _ _ rfl (by rfl) (fun W => op_n_add iw b at_ Hat_.out.symm (by omega) rfl rfl rfl) ?_
            simp only [n1, n3, n4]
            obtain ⟨bt, h_bt⟩ : ∃ q_ : Nat, q_ = Pl.V x / 2 ^ at_ % 2 := ⟨_, rfl⟩
            have hbtb : bt < 2 := by rw [h_bt]; exact Nat.mod_lt _ (by decide)
            have Hbt := Lib.hid h_bt
            clear h_bt
            refine @wpG_tk _ _ _ _ _ (some 45) (.int .i64 (bt : Int)) _ _ rfl (.call (f := 49) (args := #[.string (bstr x), .int .i64 (at_ : Int)]) (by rfl) (fun W => by go_simp) (fun W hg => Hbt.out ▸ bit_any x at_ W (by omega) (by omega))) ?_
            simp only [n1, n3, n4]
            refine @wpG_p _ _ _ _ _ (some 46) (.int .i64 (b : Int)) _ _ rfl (by rfl) (fun _ => rfl) ?_
            simp only [n1, n3, n4]
            have hbt7_ : bt * 2 ^ b ≤ 1 * 2 ^ 8 := Nat.mul_le_mul (by omega) (Nat.pow_le_pow_right (by decide) (by omega))
            refine @wpG_p _ _ _ _ _ (some 47) (.int .i64 ((bt * 2 ^ b : Nat) : Int)) _ _ rfl (by rfl) (fun W => op_k_shl bt b _ rfl (by show b ≤ 64; omega) (wrap_n64 (by omega)) rfl rfl rfl) ?_
            simp only [n1, n3, n4]
            have hz_ : z < 2 ^ b := by rw [HZE.out]; exact Nat.mod_lt _ (Nat.two_pow_pos _)
            have hz7_ : 2 ^ b ≤ 2 ^ 8 := Nat.pow_le_pow_right (by decide) (by omega)
            obtain ⟨z2, h_z2⟩ : ∃ q_ : Nat, q_ = z + bt * 2 ^ b := ⟨_, rfl⟩
            have hz2b : z2 ≤ 1024 := by omega
            have Hz2 := Lib.hid h_z2
            clear h_z2
            refine @wpG_p _ _ _ _ _ (some 48) (.int .i64 (z2 : Int)) _ _ rfl (by rfl) (fun W => op_n_or z bt b z2 hz_ Hz2.out.symm (by omega) rfl rfl rfl) ?_
            simp only [n1, n3, n4]
            refine @wpG_p _ _ _ _ _ (some 12) (.int .i64 (z2 : Int)) _ _ rfl (by rfl) (fun _ => rfl) ?_
            simp only [n1, n3, n4]
            refine wpG_done (fun V39 hv40 => ?_)
            have S41 : Hid (St w F [own (.slice E i d) 3 1 i (ic (Pl.cellsOf p (Pl.fld k (Pl.V x)) i)), blk gu 3 [.int .i64 (U : Int)], blk gl 22 [.slice A m c], blk gn 3 [.int .i64 N], own (.slice A m c) 3 1 m (ic p)] V39) := Lib.hid (S38.out.gr hv40)
            clear S38
            clear hv40
            refine ⟨rfl, hK _ _ ?_⟩
            clear hK
            go_upto_region 10 with fail
            refine wpG_region_k (fun K hK => ?_)
            refine @wpG_p _ _ _ _ _ (some 49) (.int .i64 ((b : Int) + 1)) _ _ rfl (by rfl) (fun W => op_i_add W (b : Int) 1 (by omega) rfl rfl rfl Try.underlying3) ?_
            simp only [n1, n3, n4]
            refine @wpG_p _ _ _ _ _ (some 35) (.int .i64 ((b : Int) + 1)) _ _ rfl (by rfl) (fun _ => rfl) ?_
            simp only [n1, n3, n4]
            refine wpG_done (fun V42 hv43 => ?_)
            have S44 : Hid (St w F [own (.slice E i d) 3 1 i (ic (Pl.cellsOf p (Pl.fld k (Pl.V x)) i)), blk gu 3 [.int .i64 (U : Int)], blk gl 22 [.slice A m c], blk gn 3 [.int .i64 N], own (.slice A m c) 3 1 m (ic p)] V42) := Lib.hid (S41.out.gr hv43)
            clear S41
            clear hv43
            refine ⟨rfl, hK _ _ ?_⟩
            clear hK
            go_wp2_with fail
            go_roundw
            case rel => exact ⟨b + 1, z2, (by first | rfl | go_num), (by first | rfl | go_num), (by omega), (by rw [Hz2.out, HZE.out, Hbt.out, Hat_.out, Hiw.out]; exact Pl.num_step _ _ _), S44.out⟩
            case measure => first | (simp only [intOf]; omega) | (simp [intOf]; done) | (simp [intOf]; omega) | omega
          | false =>
            have f45 := of_decide_eq_false Hc34.out.symm
            go_upto_region 11 with fail
            refine wpG_region_k (fun K hK => ?_)
            refine @wpG_p _ _ _ _ _ (some 51) (.func (.func 50) #[] #[.pointer (some ⟨gn, 0, none⟩), .pointer (some ⟨gu, 0, none⟩), .pointer (some ⟨gl, 0, none⟩)]) _ _ rfl (by rfl) (fun _ => rfl) ?_
            simp only [n1, n3, n4]
            refine @wpG_p _ _ _ _ _ (some 52) (.int .i64 (z : Int)) _ _ rfl (by rfl) (fun _ => rfl) ?_
            simp only [n1, n3, n4]
            have hbk2_ : b = k := by omega
            have hzf_ : z = (Pl.fld k (Pl.V x)) i := by rw [HZE.out, hbk2_]; unfold Pl.fld; rw [Nat.mul_comm]
            have HZF := Lib.hid hzf_
            clear hzf_ hbk2_
            have hN1_ : 1 ≤ N := by have := HNE.out; omega
            refine wpG_call (some 53) 50 #[.int .i64 (z : Int), .pointer (some ⟨gn, 0, none⟩), .pointer (some ⟨gu, 0, none⟩), .pointer (some ⟨gl, 0, none⟩)] rfl (by rfl) (fun W => by go_simp) (fun W46 hg47 => ?_)
            obtain ⟨fp_, hA_, hfp_, back_⟩ := St.lend (L := [blk gu 3 [.int .i64 (U : Int)], blk gl 22 [.slice A m c], blk gn 3 [.int .i64 N], own (.slice A m c) 3 1 m (ic p)]) (M := [own (.slice E i d) 3 1 i (ic (Pl.cellsOf p (Pl.fld k (Pl.V x)) i))]) (((((S33.out.gr hg47).front 4 rfl).front 4 rfl).front 4 rfl).front 4 rfl)
            refine (turn_any z U N gn gu gl A m c p fp_ W46 (by omega) (by omega) (by omega) hA_).mono ?_
            rintro e w48 ⟨rfl, hS_⟩
            refine ⟨_, rfl, ?_⟩
            have hT_ := back_ hS_
            simp only [n1, n3, n4]
            have S49 : Hid (St w F [blk gu 3 [.int .i64 (Pl.tu p U z : Int)], blk gl 22 [.slice A m c], blk gn 3 [.int .i64 (N - 1)], own (.slice A m c) 3 1 m (ic p), own (.slice E i d) 3 1 i (ic (Pl.cellsOf p (Pl.fld k (Pl.V x)) i))] w48) := Lib.hid hT_
            clear S33
            clear hT_ hS_ hg47 hA_ hfp_ back_
            refine @wpG_p _ _ _ _ _ (some 50) (.tuple #[.int .i64 (Pl.tv p U z), .bool (Pl.tg p U z N)]) _ _ rfl (by rfl) (fun _ => rfl) ?_
            simp only [n1, n3, n4]
            refine @wpG_p _ _ _ _ _ (some 54) (.int .i64 (Pl.tv p U z)) _ _ rfl (by rfl) (fun W => by go_simp) ?_
            simp only [n1, n3, n4]
            refine @wpG_p _ _ _ _ _ (some 55) (.bool (Pl.tg p U z N)) _ _ rfl (by rfl) (fun W => by go_simp) ?_
            simp only [n1, n3, n4]
            refine @wpG_p _ _ _ _ _ (some 14) (.int .i64 (Pl.tv p U z)) _ _ rfl (by rfl) (fun _ => rfl) ?_
            simp only [n1, n3, n4]
            refine @wpG_p _ _ _ _ _ (some 15) (.bool (Pl.tg p U z N)) _ _ rfl (by rfl) (fun _ => rfl) ?_
            simp only [n1, n3, n4]
            refine wpG_done (fun V50 hv51 => ?_)
            have S52 : Hid (St w F [blk gu 3 [.int .i64 (Pl.tu p U z : Int)], blk gl 22 [.slice A m c], blk gn 3 [.int .i64 (N - 1)], own (.slice A m c) 3 1 m (ic p), own (.slice E i d) 3 1 i (ic (Pl.cellsOf p (Pl.fld k (Pl.V x)) i))] V50) := Lib.hid (S49.out.gr hv51)
            clear S49
            clear hv51
            refine ⟨rfl, hK _ _ ?_⟩
            clear hK
            go_upto_region 12 with fail
            refine wpG_region_k (fun K hK => ?_)
            refine @wpG_p _ _ _ _ _ (some 56) (.bool (Pl.tg p U z N)) _ _ rfl (by rfl) (fun _ => rfl) ?_
            simp only [n1, n3, n4]
            refine @wpG_p _ _ _ _ _ (some 57) (.bool (!(Pl.tg p U z N))) _ _ rfl (by rfl) (fun W => by go_simp) ?_
            simp only [n1, n3, n4]
            refine wpG_done (fun V53 hv54 => ?_)
            have S55 : Hid (St w F [blk gu 3 [.int .i64 (Pl.tu p U z : Int)], blk gl 22 [.slice A m c], blk gn 3 [.int .i64 (N - 1)], own (.slice A m c) 3 1 m (ic p), own (.slice E i d) 3 1 i (ic (Pl.cellsOf p (Pl.fld k (Pl.V x)) i))] V53) := Lib.hid (S52.out.gr hv54)
            clear S52
            clear hv54
            refine ⟨rfl, hK _ _ ?_⟩
            clear hK
            obtain ⟨c56, hc56⟩ : ∃ q_, q_ = (!(Pl.tg p U z N)) := ⟨_, rfl⟩
            rw [← hc56]
            have Hc56 := Lib.hid hc56
            clear hc56
            cases c56 with
            | true =>
              have f57 := Lib.hid ((bnt Hc56.out))
              go_upto_region 13 with fail
              refine wpG_region_k (fun K hK => ?_)
              refine @wpG_p _ _ _ _ _ (some 8) (.slice none 0 0) _ _ rfl (by rfl) (fun _ => rfl) ?_
              simp only [n1, n3, n4]
              refine @wpG_p _ _ _ _ _ (some 9) (.bool false) _ _ rfl (by rfl) (fun _ => rfl) ?_
              simp only [n1, n3, n4]
              refine wpG_done (fun V58 hv59 => ?_)
              have S60 : Hid (St w F [blk gu 3 [.int .i64 (Pl.tu p U z : Int)], blk gl 22 [.slice A m c], blk gn 3 [.int .i64 (N - 1)], own (.slice A m c) 3 1 m (ic p), own (.slice E i d) 3 1 i (ic (Pl.cellsOf p (Pl.fld k (Pl.V x)) i))] V58) := Lib.hid (S55.out.gr hv59)
              clear S55
              clear hv59
              refine ⟨rfl, hK _ _ ?_⟩
              clear hK
              go_wp2_with fail
              go_ret2
              (have e_f57 := f57.out; exact ⟨none, 0, 0, by rw [Pl.gok_bad (i := i) (by omega) (by rw [← Hi1.out, ← Hik.out, ← HL8.out]; omega) (fun h1_ => by have h2_ := (Pl.turn_ok (p := p) (f := (Pl.fld k (Pl.V x))) (N := N) (show i < n by omega) HUE.out HNE.out).1.2 (by rw [HML.out]; exact h1_); rw [← HZF.out] at h2_; rw [h2_] at e_f57; exact absurd e_f57 (by decide))]; rfl, Nat.zero_le _, fun h1_ => absurd h1_ (by rw [Pl.gok_bad (i := i) (by omega) (by rw [← Hi1.out, ← Hik.out, ← HL8.out]; omega) (fun h1_ => by have h2_ := (Pl.turn_ok (p := p) (f := (Pl.fld k (Pl.V x))) (N := N) (show i < n by omega) HUE.out HNE.out).1.2 (by rw [HML.out]; exact h1_); rw [← HZF.out] at h2_; rw [h2_] at e_f57; exact absurd e_f57 (by decide))]; decide), S60.out.dropAllF.nilOwn _ _⟩)
            | false =>
              have f61 := Lib.hid ((bnf Hc56.out))
              go_upto_region 14 with fail
              refine wpG_region_k (fun K hK => ?_)
              refine @wpG_p _ _ _ _ _ (some 58) (.slice E i d) _ _ rfl (by rfl) (fun _ => rfl) ?_
              simp only [n1, n3, n4]
              refine @wpG_p _ _ _ _ _ (some 59) (.int .i64 (Pl.tv p U z)) _ _ rfl (by rfl) (fun _ => rfl) ?_
              simp only [n1, n3, n4]
              refine wpG_val (some 60) rfl (by rfl) (fun W62 hg63 => ⟨.slice (some ⟨W62.heap.size, 0, none⟩) 1 1, W62.alloc (.cells #[.int .i64 (Pl.tv p U z)] 3), by (go_simp <;> rfl), ?_⟩)
              simp only [n1, n3, n4]
              obtain ⟨g64, U65, hg_, hu_, hS_⟩ := (S55.out.gr hg63).made [.int .i64 (Pl.tv p U z)] 3
              rw [← hu_, ← hg_]
              have S66 : Hid (St w F [blk g64 3 [.int .i64 (Pl.tv p U z)], blk gu 3 [.int .i64 (Pl.tu p U z : Int)], blk gl 22 [.slice A m c], blk gn 3 [.int .i64 (N - 1)], own (.slice A m c) 3 1 m (ic p), own (.slice E i d) 3 1 i (ic (Pl.cellsOf p (Pl.fld k (Pl.V x)) i))] U65) := Lib.hid hS_
              clear S55
              clear hg_ hu_ hS_ hg63
              have S67 : Hid (St w F [own (.slice E i d) 3 1 i (ic (Pl.cellsOf p (Pl.fld k (Pl.V x)) i)), blk g64 3 [.int .i64 (Pl.tv p U z)], blk gu 3 [.int .i64 (Pl.tu p U z : Int)], blk gl 22 [.slice A m c], blk gn 3 [.int .i64 (N - 1)], own (.slice A m c) 3 1 m (ic p)] U65) := Lib.hid (S66.out.front 5 rfl)
              clear S66
              refine wpG_appS (some 61) rfl rfl (.tmp 58) (.tmp 60) 22 22 rfl 3 1 8 Try.underlying22 (by kernel_rfl) (.slice E i d) i (ic (Pl.cellsOf p (Pl.fld k (Pl.V x)) i)) S67.out (.slice (some ⟨g64, 0, none⟩) 1 1) 1 [.int .i64 (Pl.tv p U z)] (fun W hg => src_lies Try.underlying22 1 rfl (fun h => by cases h) (by intro u hu; simp at hu; rcases hu with rfl <;> rfl) ((S67.out.gr hg).liesBlk 1 rfl)) rfl rfl (by simp only [maxLen]; omega) (by omega) (fun v68 W69 hS_ => ?_)
              simp only [n1, n3, n4]
              rw [show ic (Pl.cellsOf p (Pl.fld k (Pl.V x)) i) ++ [.int .i64 (Pl.tv p U z)] = ic ((Pl.cellsOf p (Pl.fld k (Pl.V x)) i) ++ [(Pl.tv p U z)]) by simp [ic]] at hS_
              obtain ⟨A70, k71, rfl, hle_, hcap_, _⟩ := own_shape (hS_.ownr 0 rfl)
              have S72 : Hid (St w F [own (.slice A70 (i + 1) k71) 3 1 (i + 1) (ic ((Pl.cellsOf p (Pl.fld k (Pl.V x)) i) ++ [(Pl.tv p U z)])), blk g64 3 [.int .i64 (Pl.tv p U z)], blk gu 3 [.int .i64 (Pl.tu p U z : Int)], blk gl 22 [.slice A m c], blk gn 3 [.int .i64 (N - 1)], own (.slice A m c) 3 1 m (ic p)] W69) := Lib.hid hS_
              clear S67
              clear hS_
              refine @wpG_p _ _ _ _ _ (some 10) (.slice A70 (i + 1) k71) _ _ rfl (by rfl) (fun _ => rfl) ?_
              simp only [n1, n3, n4]
              refine wpG_done (fun V73 hv74 => ?_)
              have S75 : Hid (St w F [own (.slice A70 (i + 1) k71) 3 1 (i + 1) (ic ((Pl.cellsOf p (Pl.fld k (Pl.V x)) i) ++ [(Pl.tv p U z)])), blk g64 3 [.int .i64 (Pl.tv p U z)], blk gu 3 [.int .i64 (Pl.tu p U z : Int)], blk gl 22 [.slice A m c], blk gn 3 [.int .i64 (N - 1)], own (.slice A m c) 3 1 m (ic p)] V73) := Lib.hid (S72.out.gr hv74)
              clear S72
              clear hv74
              refine ⟨rfl, hK _ _ ?_⟩
              clear hK
              go_upto_region 4 with fail
              refine wpG_region_k (fun K hK => ?_)
              refine @wpG_p _ _ _ _ _ (some 32) (.int .i64 (i : Int)) _ _ rfl (by rfl) (fun _ => rfl) ?_
              simp only [n1, n3, n4]
              refine @wpG_p _ _ _ _ _ (some 33) (.int .i64 ((i : Int) + 1)) _ _ rfl (by rfl) (fun W => op_i_add W (i : Int) 1 (by omega) rfl rfl rfl Try.underlying3) ?_
              simp only [n1, n3, n4]
              refine @wpG_p _ _ _ _ _ (some 11) (.int .i64 ((i : Int) + 1)) _ _ rfl (by rfl) (fun _ => rfl) ?_
              simp only [n1, n3, n4]
              refine wpG_done (fun V76 hv77 => ?_)
              have S78 : Hid (St w F [own (.slice A70 (i + 1) k71) 3 1 (i + 1) (ic ((Pl.cellsOf p (Pl.fld k (Pl.V x)) i) ++ [(Pl.tv p U z)])), blk g64 3 [.int .i64 (Pl.tv p U z)], blk gu 3 [.int .i64 (Pl.tu p U z : Int)], blk gl 22 [.slice A m c], blk gn 3 [.int .i64 (N - 1)], own (.slice A m c) 3 1 m (ic p)] V76) := Lib.hid (S75.out.gr hv77)
              clear S75
              clear hv77
              refine ⟨rfl, hK _ _ ?_⟩
              clear hK
              go_wp2_with fail
              go_roundw
              have hiN_ : i < n := by omega
              have htg_ : Pl.tg p U ((Pl.fld k (Pl.V x)) i) N = true := by have h_ := trivial; rw [← HZF.out]; have e_f61 := f61.out; exact (by have h5_ := e_f61; simpa using h5_)
              have HTG := Lib.hid htg_
              clear htg_
              have htu_ := Pl.turn_ok (p := p) (f := (Pl.fld k (Pl.V x))) hiN_ HUE.out HNE.out
              have HTU := Lib.hid htu_
              clear htu_
              have S79 : Hid (St w F [own (.slice A70 (i + 1) k71) 3 1 (i + 1) (ic ((Pl.cellsOf p (Pl.fld k (Pl.V x)) i) ++ [(Pl.tv p U z)])), blk gu 3 [.int .i64 (Pl.tu p U z : Int)], blk gl 22 [.slice A m c], blk gn 3 [.int .i64 (N - 1)], own (.slice A m c) 3 1 m (ic p)] V76) := Lib.hid (S78.out.sub (.cons_cons _ (.cons _ (.cons_cons _ (.cons_cons _ (.cons_cons _ (.cons_cons _ .slnil)))))))
              clear S78
              case rel => exact ⟨A70, k71, i + 1, Pl.tu p U z, N - 1, (by first | rfl | go_num), (by first | rfl | go_num), (by omega), (by have := HNE.out; omega), (by rw [HZF.out]; exact HTU.out.2 HTG.out), (fun j hj => by rcases Nat.lt_or_ge j i with h1_ | h1_; exact HOK.out j h1_; obtain rfl : j = i := (by omega); exact ⟨by have h2_ := HTU.out.1.1 HTG.out; rw [HML.out] at h2_; exact h2_, by rw [← Hi1.out, ← Hik.out, ← HL8.out]; omega⟩), (by have h_ := S79.out; rw [HZF.out, ← Pl.turn_cells HTG.out] at h_; rw [HZF.out]; exact h_)⟩
              case measure => first | (simp only [intOf]; omega) | (simp [intOf]; done) | (simp [intOf]; omega) | omega
      | false =>
        have f80 := of_decide_eq_false Hc22.out.symm
        go_upto_region 15 with fail
        refine wpG_region_k (fun K hK => ?_)
        refine @wpG_p _ _ _ _ _ (some 62) (.int .i64 (n : Int)) _ _ rfl (by rfl) (fun _ => rfl) ?_
        simp only [n1, n3, n4]
        refine @wpG_p _ _ _ _ _ (some 63) (.int .i64 (k : Int)) _ _ rfl (by rfl) (fun _ => rfl) ?_
        simp only [n1, n3, n4]
        obtain ⟨nk, h_nk⟩ : ∃ q_ : Nat, q_ = n * k := ⟨_, rfl⟩
        have hnkb : nk ≤ 65 * 8 := by rw [h_nk]; exact Nat.mul_le_mul (by omega) (by omega)
        have Hnk := Lib.hid h_nk
        clear h_nk
        refine @wpG_p _ _ _ _ _ (some 64) (.int .i64 (nk : Int)) _ _ rfl (by rfl) (fun W => op_n_mul n k nk Hnk.out.symm (by omega) rfl rfl rfl) ?_
        simp only [n1, n3, n4]
        refine @wpG_p _ _ _ _ _ (some 16) (.int .i64 (nk : Int)) _ _ rfl (by rfl) (fun _ => rfl) ?_
        simp only [n1, n3, n4]
        refine wpG_done (fun V81 hv82 => ?_)
        have S83 : Hid (St w F [own (.slice E i d) 3 1 i (ic (Pl.cellsOf p (Pl.fld k (Pl.V x)) i)), blk gu 3 [.int .i64 (U : Int)], blk gl 22 [.slice A m c], blk gn 3 [.int .i64 N], own (.slice A m c) 3 1 m (ic p)] V81) := Lib.hid (S21.out.gr hv82)
        clear S21
        clear hv82
        refine ⟨rfl, hK _ _ ?_⟩
        clear hK
        go_wp2_with fail
        go_loopw [16] (fun v16 wr => ∃ (a : Nat), v16 = .int .i64 (a : Int) ∧ nk ≤ a ∧ (∀ j, nk ≤ j → j < a → Pl.V x / 2 ^ j % 2 = 0) ∧ St w F [own (.slice E i d) 3 1 i (ic (Pl.cellsOf p (Pl.fld k (Pl.V x)) i)), blk gu 3 [.int .i64 (U : Int)], blk gl 22 [.slice A m c], blk gn 3 [.int .i64 N], own (.slice A m c) 3 1 m (ic p)] wr) (fun i _ => x.length * 8 - (intOf i).toNat)
        case atStart => exact ⟨nk, rfl, Nat.le_refl _, (fun j h1_ h2_ => absurd h2_ (by omega)), S83.out⟩
        case round =>
          obtain ⟨a, rfl, han, htl, hS⟩ := hrel
          have HTL := Lib.hid htl
          clear htl
          have SL := Lib.hid hS
          clear S83 hS
          have S84 := SL
          clear SL
          go_upto_region 16 with fail
          refine wpG_region_k (fun K hK => ?_)
          refine @wpG_p _ _ _ _ _ (some 65) (.int .i64 (a : Int)) _ _ rfl (by rfl) (fun _ => rfl) ?_
          simp only [n1, n3, n4]
          refine @wpG_p _ _ _ _ _ (some 66) (.string (bstr x)) _ _ rfl (by rfl) (fun _ => rfl) ?_
          simp only [n1, n3, n4]
          refine @wpG_p _ _ _ _ _ (some 67) (.int .i64 (x.length : Int)) _ _ rfl (by rfl) (fun W => op_str_len W x rfl rfl Try.underlying9) ?_
          simp only [n1, n3, n4]
          obtain ⟨L9, h_L9⟩ : ∃ q_ : Nat, q_ = x.length * 8 := ⟨_, rfl⟩
          have hL9b : L9 ≤ 512 ∧ L9 = x.length * 8 := by omega
          have HL9 := Lib.hid h_L9
          clear h_L9
          refine @wpG_p _ _ _ _ _ (some 68) (.int .i64 (L9 : Int)) _ _ rfl (by rfl) (fun W => op_n_mul x.length 8 L9 HL9.out.symm (by omega) rfl rfl rfl) ?_
          simp only [n1, n3, n4]
          refine @wpG_p _ _ _ _ _ (some 69) (.bool (decide ((a : Int) < (L9 : Int)))) _ _ rfl (by rfl) (fun W => op_int_lss W (a : Int) (L9 : Int) rfl rfl rfl Try.underlying3) ?_
          simp only [n1, n3, n4]
          refine wpG_done (fun V85 hv86 => ?_)
          have S87 : Hid (St w F [own (.slice E i d) 3 1 i (ic (Pl.cellsOf p (Pl.fld k (Pl.V x)) i)), blk gu 3 [.int .i64 (U : Int)], blk gl 22 [.slice A m c], blk gn 3 [.int .i64 N], own (.slice A m c) 3 1 m (ic p)] V85) := Lib.hid (S84.out.gr hv86)
          clear S84
          clear hv86
          refine ⟨rfl, hK _ _ ?_⟩
          clear hK
          obtain ⟨c88, hc88⟩ : ∃ q_, q_ = (decide ((a : Int) < (L9 : Int))) := ⟨_, rfl⟩
          rw [← hc88]
          have Hc88 := Lib.hid hc88
          clear hc88
          cases c88 with
          | true =>
            have f89 := of_decide_eq_true Hc88.out.symm
            go_upto_region 18 with fail
            refine wpG_region_k (fun K hK => ?_)
            refine @wpG_p _ _ _ _ _ (some 72) (.string (bstr x)) _ _ rfl (by rfl) (fun _ => rfl) ?_
            simp only [n1, n3, n4]
            refine @wpG_p _ _ _ _ _ (some 73) (.int .i64 (a : Int)) _ _ rfl (by rfl) (fun _ => rfl) ?_
            simp only [n1, n3, n4]
            obtain ⟨tb, h_tb⟩ : ∃ q_ : Nat, q_ = Pl.V x / 2 ^ a % 2 := ⟨_, rfl⟩
            have htbb : tb < 2 := by rw [h_tb]; exact Nat.mod_lt _ (by decide)
            have Htb := Lib.hid h_tb
            clear h_tb
            refine @wpG_tk _ _ _ _ _ (some 74) (.int .i64 (tb : Int)) _ _ rfl (.call (f := 49) (args := #[.string (bstr x), .int .i64 (a : Int)]) (by rfl) (fun W => by go_simp) (fun W hg => Htb.out ▸ bit_any x a W (by omega) (by omega))) ?_
            simp only [n1, n3, n4]
            refine @wpG_p _ _ _ _ _ (some 75) (.bool (decide ((tb : Int) = 1))) _ _ rfl (by rfl) (fun W => op_int_eql W (tb : Int) 1 rfl rfl rfl Try.underlying3) ?_
            simp only [n1, n3, n4]
            refine wpG_done (fun V90 hv91 => ?_)
            have S92 : Hid (St w F [own (.slice E i d) 3 1 i (ic (Pl.cellsOf p (Pl.fld k (Pl.V x)) i)), blk gu 3 [.int .i64 (U : Int)], blk gl 22 [.slice A m c], blk gn 3 [.int .i64 N], own (.slice A m c) 3 1 m (ic p)] V90) := Lib.hid (S87.out.gr hv91)
            clear S87
            clear hv91
            refine ⟨rfl, hK _ _ ?_⟩
            clear hK
            obtain ⟨c93, hc93⟩ : ∃ q_, q_ = (decide ((tb : Int) = 1)) := ⟨_, rfl⟩
            rw [← hc93]
            have Hc93 := Lib.hid hc93
            clear hc93
            cases c93 with
            | true =>
              have f94 := Lib.hid (of_decide_eq_true Hc93.out.symm)
              have f94a := Int.le_of_eq f94.out
              have f94b := Int.le_of_eq f94.out.symm
              go_upto_region 19 with fail
              refine wpG_region_k (fun K hK => ?_)
              refine @wpG_p _ _ _ _ _ (some 8) (.slice none 0 0) _ _ rfl (by rfl) (fun _ => rfl) ?_
              simp only [n1, n3, n4]
              refine @wpG_p _ _ _ _ _ (some 9) (.bool false) _ _ rfl (by rfl) (fun _ => rfl) ?_
              simp only [n1, n3, n4]
              refine wpG_done (fun V95 hv96 => ?_)
              have S97 : Hid (St w F [own (.slice E i d) 3 1 i (ic (Pl.cellsOf p (Pl.fld k (Pl.V x)) i)), blk gu 3 [.int .i64 (U : Int)], blk gl 22 [.slice A m c], blk gn 3 [.int .i64 N], own (.slice A m c) 3 1 m (ic p)] V95) := Lib.hid (S92.out.gr hv96)
              clear S92
              clear hv96
              refine ⟨rfl, hK _ _ ?_⟩
              clear hK
              go_wp2_with fail
              go_ret2
              (have e_f94 := f94.out; exact ⟨none, 0, 0, by rw [Pl.gok_tail (a := a) (by rw [← Hnk.out]; omega) (by rw [← Htb.out]; omega)]; rfl, Nat.zero_le _, fun h1_ => absurd h1_ (by rw [Pl.gok_tail (a := a) (by rw [← Hnk.out]; omega) (by rw [← Htb.out]; omega)]; decide), S97.out.dropAllF.nilOwn _ _⟩)
            | false =>
              have f98 := of_decide_eq_false Hc93.out.symm
              go_upto_region 17 with fail
              refine wpG_region_k (fun K hK => ?_)
              refine @wpG_p _ _ _ _ _ (some 70) (.int .i64 (a : Int)) _ _ rfl (by rfl) (fun _ => rfl) ?_
              simp only [n1, n3, n4]
              refine @wpG_p _ _ _ _ _ (some 71) (.int .i64 ((a : Int) + 1)) _ _ rfl (by rfl) (fun W => op_i_add W (a : Int) 1 (by omega) rfl rfl rfl Try.underlying3) ?_
              simp only [n1, n3, n4]
              refine @wpG_p _ _ _ _ _ (some 16) (.int .i64 ((a : Int) + 1)) _ _ rfl (by rfl) (fun _ => rfl) ?_
              simp only [n1, n3, n4]
              refine wpG_done (fun V99 hv100 => ?_)
              have S101 : Hid (St w F [own (.slice E i d) 3 1 i (ic (Pl.cellsOf p (Pl.fld k (Pl.V x)) i)), blk gu 3 [.int .i64 (U : Int)], blk gl 22 [.slice A m c], blk gn 3 [.int .i64 N], own (.slice A m c) 3 1 m (ic p)] V99) := Lib.hid (S92.out.gr hv100)
              clear S92
              clear hv100
              refine ⟨rfl, hK _ _ ?_⟩
              clear hK
              go_wp2_with fail
              go_roundw
              case rel => exact ⟨a + 1, (by first | rfl | go_num), (by omega), (fun j h1_ h2_ => by rcases Nat.lt_or_ge j a with h3_ | h3_; exact HTL.out j h1_ h3_; obtain rfl : j = a := (by omega); have h4_ := Htb.out; generalize Pl.V x / 2 ^ j % 2 = y_ at h4_ ⊢; omega), S101.out⟩
              case measure => first | (simp only [intOf]; omega) | (simp [intOf]; done) | (simp [intOf]; omega) | omega
          | false =>
            have f102 := of_decide_eq_false Hc88.out.symm
            go_upto_region 20 with fail
            refine wpG_region_k (fun K hK => ?_)
            refine @wpG_p _ _ _ _ _ (some 76) (.slice E i d) _ _ rfl (by rfl) (fun _ => rfl) ?_
            simp only [n1, n3, n4]
            refine @wpG_p _ _ _ _ _ (some 8) (.slice E i d) _ _ rfl (by rfl) (fun _ => rfl) ?_
            simp only [n1, n3, n4]
            refine @wpG_p _ _ _ _ _ (some 9) (.bool true) _ _ rfl (by rfl) (fun _ => rfl) ?_
            simp only [n1, n3, n4]
            refine wpG_done (fun V103 hv104 => ?_)
            have S105 : Hid (St w F [own (.slice E i d) 3 1 i (ic (Pl.cellsOf p (Pl.fld k (Pl.V x)) i)), blk gu 3 [.int .i64 (U : Int)], blk gl 22 [.slice A m c], blk gn 3 [.int .i64 N], own (.slice A m c) 3 1 m (ic p)] V103) := Lib.hid (S87.out.gr hv104)
            clear S87
            clear hv104
            refine ⟨rfl, hK _ _ ?_⟩
            clear hK
            go_wp2_with fail
            go_ret2
            (have hv_ : Pl.V x < 2 ^ (k * n) := Nat.mul_comm n k ▸ Hnk.out ▸ Pl.tail_none (Pl.V_bits x) (fun j h1_ h2_ => HTL.out j h1_ (by omega)); have hcx_ : i < n → ¬ (i + 1) * k ≤ x.length * 8 := (fun h1_ h2_ => by rw [← Hi1.out, ← Hik.out, ← HL8.out] at h2_; omega); exact ⟨E, i, d, by rw [Pl.gok_yes (by omega) hcx_ HOK.out hv_]; rfl, by omega, fun _ h1_ => (by rcases Nat.lt_or_ge i n with h2_ | h2_; exact absurd (Nat.le_trans (Nat.mul_le_mul_right k (show i + 1 ≤ n by omega)) h1_) (hcx_ h2_); omega), S105.out.sub (.cons_cons _ (.cons _ (.cons _ (.cons _ (.cons _ .slnil)))))⟩)
    | false =>
      have f106 := of_decide_eq_false Hc17.out.symm
      refine @wpG_no _ _ _ _ _ (some 23) _ _ rfl (by rfl) ?_
      simp only [n1, n3, n4]
      refine @wpG_no _ _ _ _ _ (some 24) _ _ rfl (by rfl) ?_
      simp only [n1, n3, n4]
      refine @wpG_no _ _ _ _ _ (some 25) _ _ rfl (by rfl) ?_
      simp only [n1, n3, n4]
      refine @wpG_no _ _ _ _ _ (some 26) _ _ rfl (by rfl) ?_
      simp only [n1, n3, n4]
      refine @wpG_no _ _ _ _ _ (some 27) _ _ rfl (by rfl) ?_
      simp only [n1, n3, n4]
      refine @wpG_no _ _ _ _ _ (some 28) _ _ rfl (by rfl) ?_
      simp only [n1, n3, n4]
      refine @wpG_no _ _ _ _ _ (some 29) _ _ rfl (by rfl) ?_
      simp only [n1, n3, n4]
      refine @wpG_no _ _ _ _ _ (some 30) _ _ rfl (by rfl) ?_
      simp only [n1, n3, n4]
      refine @wpG_p _ _ _ _ _ (some 31) (.bool false) _ _ rfl (by rfl) (fun W => by go_simp) ?_
      simp only [n1, n3, n4]
      refine wpG_done (fun V107 hv108 => ?_)
      have S109 : Hid (St w F [own (.slice E i d) 3 1 i (ic (Pl.cellsOf p (Pl.fld k (Pl.V x)) i)), blk gu 3 [.int .i64 (U : Int)], blk gl 22 [.slice A m c], blk gn 3 [.int .i64 N], own (.slice A m c) 3 1 m (ic p)] V107) := Lib.hid (S16.out.gr hv108)
      clear S16
      clear hv108
      refine ⟨rfl, hK _ _ ?_⟩
      clear hK
      go_upto_region 15 with fail
      refine wpG_region_k (fun K hK => ?_)
      refine @wpG_p _ _ _ _ _ (some 62) (.int .i64 (n : Int)) _ _ rfl (by rfl) (fun _ => rfl) ?_
      simp only [n1, n3, n4]
      refine @wpG_p _ _ _ _ _ (some 63) (.int .i64 (k : Int)) _ _ rfl (by rfl) (fun _ => rfl) ?_
      simp only [n1, n3, n4]
      obtain ⟨nk, h_nk⟩ : ∃ q_ : Nat, q_ = n * k := ⟨_, rfl⟩
      have hnkb : nk ≤ 65 * 8 := by rw [h_nk]; exact Nat.mul_le_mul (by omega) (by omega)
      have Hnk := Lib.hid h_nk
      clear h_nk
      refine @wpG_p _ _ _ _ _ (some 64) (.int .i64 (nk : Int)) _ _ rfl (by rfl) (fun W => op_n_mul n k nk Hnk.out.symm (by omega) rfl rfl rfl) ?_
      simp only [n1, n3, n4]
      refine @wpG_p _ _ _ _ _ (some 16) (.int .i64 (nk : Int)) _ _ rfl (by rfl) (fun _ => rfl) ?_
      simp only [n1, n3, n4]
      refine wpG_done (fun V110 hv111 => ?_)
      have S112 : Hid (St w F [own (.slice E i d) 3 1 i (ic (Pl.cellsOf p (Pl.fld k (Pl.V x)) i)), blk gu 3 [.int .i64 (U : Int)], blk gl 22 [.slice A m c], blk gn 3 [.int .i64 N], own (.slice A m c) 3 1 m (ic p)] V110) := Lib.hid (S109.out.gr hv111)
      clear S109
      clear hv111
      refine ⟨rfl, hK _ _ ?_⟩
      clear hK
      go_wp2_with fail
      go_loopw [16] (fun v16 wr => ∃ (a : Nat), v16 = .int .i64 (a : Int) ∧ nk ≤ a ∧ (∀ j, nk ≤ j → j < a → Pl.V x / 2 ^ j % 2 = 0) ∧ St w F [own (.slice E i d) 3 1 i (ic (Pl.cellsOf p (Pl.fld k (Pl.V x)) i)), blk gu 3 [.int .i64 (U : Int)], blk gl 22 [.slice A m c], blk gn 3 [.int .i64 N], own (.slice A m c) 3 1 m (ic p)] wr) (fun i _ => x.length * 8 - (intOf i).toNat)
      case atStart => exact ⟨nk, rfl, Nat.le_refl _, (fun j h1_ h2_ => absurd h2_ (by omega)), S112.out⟩
      case round =>
        obtain ⟨a, rfl, han, htl, hS⟩ := hrel
        have HTL := Lib.hid htl
        clear htl
        have SL := Lib.hid hS
        clear S112 hS
        have S113 := SL
        clear SL
        go_upto_region 16 with fail
        refine wpG_region_k (fun K hK => ?_)
        refine @wpG_p _ _ _ _ _ (some 65) (.int .i64 (a : Int)) _ _ rfl (by rfl) (fun _ => rfl) ?_
        simp only [n1, n3, n4]
        refine @wpG_p _ _ _ _ _ (some 66) (.string (bstr x)) _ _ rfl (by rfl) (fun _ => rfl) ?_
        simp only [n1, n3, n4]
        refine @wpG_p _ _ _ _ _ (some 67) (.int .i64 (x.length : Int)) _ _ rfl (by rfl) (fun W => op_str_len W x rfl rfl Try.underlying9) ?_
        simp only [n1, n3, n4]
        obtain ⟨L9, h_L9⟩ : ∃ q_ : Nat, q_ = x.length * 8 := ⟨_, rfl⟩
        have hL9b : L9 ≤ 512 ∧ L9 = x.length * 8 := by omega
        have HL9 := Lib.hid h_L9
        clear h_L9
        refine @wpG_p _ _ _ _ _ (some 68) (.int .i64 (L9 : Int)) _ _ rfl (by rfl) (fun W => op_n_mul x.length 8 L9 HL9.out.symm (by omega) rfl rfl rfl) ?_
        simp only [n1, n3, n4]
        refine @wpG_p _ _ _ _ _ (some 69) (.bool (decide ((a : Int) < (L9 : Int)))) _ _ rfl (by rfl) (fun W => op_int_lss W (a : Int) (L9 : Int) rfl rfl rfl Try.underlying3) ?_
        simp only [n1, n3, n4]
        refine wpG_done (fun V114 hv115 => ?_)
        have S116 : Hid (St w F [own (.slice E i d) 3 1 i (ic (Pl.cellsOf p (Pl.fld k (Pl.V x)) i)), blk gu 3 [.int .i64 (U : Int)], blk gl 22 [.slice A m c], blk gn 3 [.int .i64 N], own (.slice A m c) 3 1 m (ic p)] V114) := Lib.hid (S113.out.gr hv115)
        clear S113
        clear hv115
        refine ⟨rfl, hK _ _ ?_⟩
        clear hK
        obtain ⟨c117, hc117⟩ : ∃ q_, q_ = (decide ((a : Int) < (L9 : Int))) := ⟨_, rfl⟩
        rw [← hc117]
        have Hc117 := Lib.hid hc117
        clear hc117
        cases c117 with
        | true =>
          have f118 := of_decide_eq_true Hc117.out.symm
          go_upto_region 18 with fail
          refine wpG_region_k (fun K hK => ?_)
          refine @wpG_p _ _ _ _ _ (some 72) (.string (bstr x)) _ _ rfl (by rfl) (fun _ => rfl) ?_
          simp only [n1, n3, n4]
          refine @wpG_p _ _ _ _ _ (some 73) (.int .i64 (a : Int)) _ _ rfl (by rfl) (fun _ => rfl) ?_
          simp only [n1, n3, n4]
          obtain ⟨tb, h_tb⟩ : ∃ q_ : Nat, q_ = Pl.V x / 2 ^ a % 2 := ⟨_, rfl⟩
          have htbb : tb < 2 := by rw [h_tb]; exact Nat.mod_lt _ (by decide)
          have Htb := Lib.hid h_tb
          clear h_tb
          refine @wpG_tk _ _ _ _ _ (some 74) (.int .i64 (tb : Int)) _ _ rfl (.call (f := 49) (args := #[.string (bstr x), .int .i64 (a : Int)]) (by rfl) (fun W => by go_simp) (fun W hg => Htb.out ▸ bit_any x a W (by omega) (by omega))) ?_
          simp only [n1, n3, n4]
          refine @wpG_p _ _ _ _ _ (some 75) (.bool (decide ((tb : Int) = 1))) _ _ rfl (by rfl) (fun W => op_int_eql W (tb : Int) 1 rfl rfl rfl Try.underlying3) ?_
          simp only [n1, n3, n4]
          refine wpG_done (fun V119 hv120 => ?_)
          have S121 : Hid (St w F [own (.slice E i d) 3 1 i (ic (Pl.cellsOf p (Pl.fld k (Pl.V x)) i)), blk gu 3 [.int .i64 (U : Int)], blk gl 22 [.slice A m c], blk gn 3 [.int .i64 N], own (.slice A m c) 3 1 m (ic p)] V119) := Lib.hid (S116.out.gr hv120)
          clear S116
          clear hv120
          refine ⟨rfl, hK _ _ ?_⟩
          clear hK
          obtain ⟨c122, hc122⟩ : ∃ q_, q_ = (decide ((tb : Int) = 1)) := ⟨_, rfl⟩
          rw [← hc122]
          have Hc122 := Lib.hid hc122
          clear hc122
          cases c122 with
          | true =>
            have f123 := Lib.hid (of_decide_eq_true Hc122.out.symm)
            have f123a := Int.le_of_eq f123.out
            have f123b := Int.le_of_eq f123.out.symm
            go_upto_region 19 with fail
            refine wpG_region_k (fun K hK => ?_)
            refine @wpG_p _ _ _ _ _ (some 8) (.slice none 0 0) _ _ rfl (by rfl) (fun _ => rfl) ?_
            simp only [n1, n3, n4]
            refine @wpG_p _ _ _ _ _ (some 9) (.bool false) _ _ rfl (by rfl) (fun _ => rfl) ?_
            simp only [n1, n3, n4]
            refine wpG_done (fun V124 hv125 => ?_)
            have S126 : Hid (St w F [own (.slice E i d) 3 1 i (ic (Pl.cellsOf p (Pl.fld k (Pl.V x)) i)), blk gu 3 [.int .i64 (U : Int)], blk gl 22 [.slice A m c], blk gn 3 [.int .i64 N], own (.slice A m c) 3 1 m (ic p)] V124) := Lib.hid (S121.out.gr hv125)
            clear S121
            clear hv125
            refine ⟨rfl, hK _ _ ?_⟩
            clear hK
            go_wp2_with fail
            go_ret2
            (have e_f123 := f123.out; exact ⟨none, 0, 0, by rw [Pl.gok_tail (a := a) (by rw [← Hnk.out]; omega) (by rw [← Htb.out]; omega)]; rfl, Nat.zero_le _, fun h1_ => absurd h1_ (by rw [Pl.gok_tail (a := a) (by rw [← Hnk.out]; omega) (by rw [← Htb.out]; omega)]; decide), S126.out.dropAllF.nilOwn _ _⟩)
          | false =>
            have f127 := of_decide_eq_false Hc122.out.symm
            go_upto_region 17 with fail
            refine wpG_region_k (fun K hK => ?_)
            refine @wpG_p _ _ _ _ _ (some 70) (.int .i64 (a : Int)) _ _ rfl (by rfl) (fun _ => rfl) ?_
            simp only [n1, n3, n4]
            refine @wpG_p _ _ _ _ _ (some 71) (.int .i64 ((a : Int) + 1)) _ _ rfl (by rfl) (fun W => op_i_add W (a : Int) 1 (by omega) rfl rfl rfl Try.underlying3) ?_
            simp only [n1, n3, n4]
            refine @wpG_p _ _ _ _ _ (some 16) (.int .i64 ((a : Int) + 1)) _ _ rfl (by rfl) (fun _ => rfl) ?_
            simp only [n1, n3, n4]
            refine wpG_done (fun V128 hv129 => ?_)
            have S130 : Hid (St w F [own (.slice E i d) 3 1 i (ic (Pl.cellsOf p (Pl.fld k (Pl.V x)) i)), blk gu 3 [.int .i64 (U : Int)], blk gl 22 [.slice A m c], blk gn 3 [.int .i64 N], own (.slice A m c) 3 1 m (ic p)] V128) := Lib.hid (S121.out.gr hv129)
            clear S121
            clear hv129
            refine ⟨rfl, hK _ _ ?_⟩
            clear hK
            go_wp2_with fail
            go_roundw
            case rel => exact ⟨a + 1, (by first | rfl | go_num), (by omega), (fun j h1_ h2_ => by rcases Nat.lt_or_ge j a with h3_ | h3_; exact HTL.out j h1_ h3_; obtain rfl : j = a := (by omega); have h4_ := Htb.out; generalize Pl.V x / 2 ^ j % 2 = y_ at h4_ ⊢; omega), S130.out⟩
            case measure => first | (simp only [intOf]; omega) | (simp [intOf]; done) | (simp [intOf]; omega) | omega
        | false =>
          have f131 := of_decide_eq_false Hc117.out.symm
          go_upto_region 20 with fail
          refine wpG_region_k (fun K hK => ?_)
          refine @wpG_p _ _ _ _ _ (some 76) (.slice E i d) _ _ rfl (by rfl) (fun _ => rfl) ?_
          simp only [n1, n3, n4]
          refine @wpG_p _ _ _ _ _ (some 8) (.slice E i d) _ _ rfl (by rfl) (fun _ => rfl) ?_
          simp only [n1, n3, n4]
          refine @wpG_p _ _ _ _ _ (some 9) (.bool true) _ _ rfl (by rfl) (fun _ => rfl) ?_
          simp only [n1, n3, n4]
          refine wpG_done (fun V132 hv133 => ?_)
          have S134 : Hid (St w F [own (.slice E i d) 3 1 i (ic (Pl.cellsOf p (Pl.fld k (Pl.V x)) i)), blk gu 3 [.int .i64 (U : Int)], blk gl 22 [.slice A m c], blk gn 3 [.int .i64 N], own (.slice A m c) 3 1 m (ic p)] V132) := Lib.hid (S116.out.gr hv133)
          clear S116
          clear hv133
          refine ⟨rfl, hK _ _ ?_⟩
          clear hK
          go_wp2_with fail
          go_ret2
          (have hv_ : Pl.V x < 2 ^ (k * n) := Nat.mul_comm n k ▸ Hnk.out ▸ Pl.tail_none (Pl.V_bits x) (fun j h1_ h2_ => HTL.out j h1_ (by omega)); have hcx_ : i < n → ¬ (i + 1) * k ≤ x.length * 8 := (fun h1_ h2_ => by omega); exact ⟨E, i, d, by rw [Pl.gok_yes (by omega) hcx_ HOK.out hv_]; rfl, by omega, fun _ h1_ => (by rcases Nat.lt_or_ge i n with h2_ | h2_; exact absurd (Nat.le_trans (Nat.mul_le_mul_right k (show i + 1 ≤ n by omega)) h1_) (hcx_ h2_); omega), S134.out.sub (.cons_cons _ (.cons _ (.cons _ (.cons _ (.cons _ .slnil)))))⟩)
set_option maxRecDepth 1000000 in
set_option maxHeartbeats 4000000 in
theorem gather_bool (x : List UInt8) (w : World) (hx : x.length = 8) :
    Calls Try.prog 53 #[.string (bstr x), .int .i64 64, .int .i64 1, .func (.func 54) #[] #[]] w fun e w' => ∃ E d, e = .returned (.tuple #[.slice E 64 d, .bool true]) ∧ St w noB [own (.slice E 64 d) 4 1 64 (blc (Pl.mbs x 64))] w' := by
  have S1 : Hid (St w noB [] w) := Lib.hid (St.start w)
  go_enter Try.func53, Try.ntmps53
  go_upto_region 0 with fail
  refine wpG_region_k (fun K hK => ?_)
  refine @wpG_p _ _ _ _ _ (some 8) (.slice none 0 0) _ _ rfl (by rfl) (fun _ => rfl) ?_
  simp only [n1, n3, n4]
  refine @wpG_p _ _ _ _ _ (some 9) (.bool false) _ _ rfl (by rfl) (fun _ => rfl) ?_
  simp only [n1, n3, n4]
  refine wpG_done (fun V2 hv3 => ?_)
  have S4 : Hid (St w noB [] V2) := Lib.hid (S1.out.gr hv3)
  clear S1
  clear hv3
  refine ⟨rfl, hK _ _ ?_⟩
  clear hK
  go_upto_region 1 with fail
  refine wpG_region_k (fun K hK => ?_)
  refine @wpG_p _ _ _ _ _ (some 17) (.int .i64 64) _ _ rfl (by rfl) (fun _ => rfl) ?_
  simp only [n1, n3, n4]
  refine wpG_val (some 18) rfl (by rfl) (fun W5 hg6 => ?_)
  refine makez_ex 68 4 (.bool false) rfl 1 (.const (.int .i64 0)) (.tmp 17) rfl Try.underlying68 (by kernel_rfl) 0 64 rfl rfl (by decide) (by decide) (by decide) W5 (S4.out.gr hg6) (fun g8 U7 hS_ => ?_)
  clear hg6
  simp only [n1, n3, n4]
  rw [show List.replicate 0 (.bool false) = blc (Pl.mbs x 0) from rfl] at hS_
  have S9 : Hid (St w noB [own (.slice (some ⟨g8, 0, none⟩) 0 64) 4 1 0 (blc (Pl.mbs x 0))] U7) := Lib.hid hS_
  clear S4
  clear hS_
  refine @wpG_p _ _ _ _ _ (some 10) (.slice (some ⟨g8, 0, none⟩) 0 64) _ _ rfl (by rfl) (fun _ => rfl) ?_
  simp only [n1, n3, n4]
  refine wpG_done (fun V10 hv11 => ?_)
  have S12 : Hid (St w noB [own (.slice (some ⟨g8, 0, none⟩) 0 64) 4 1 0 (blc (Pl.mbs x 0))] V10) := Lib.hid (S9.out.gr hv11)
  clear S9
  clear hv11
  refine ⟨rfl, hK _ _ ?_⟩
  clear hK
  go_upto_region 2 with fail
  refine wpG_region_k (fun K hK => ?_)
  refine @wpG_p _ _ _ _ _ (some 11) (.int .i64 0) _ _ rfl (by rfl) (fun _ => rfl) ?_
  simp only [n1, n3, n4]
  refine wpG_done (fun V13 hv14 => ?_)
  have S15 : Hid (St w noB [own (.slice (some ⟨g8, 0, none⟩) 0 64) 4 1 0 (blc (Pl.mbs x 0))] V13) := Lib.hid (S12.out.gr hv14)
  clear S12
  clear hv14
  refine ⟨rfl, hK _ _ ?_⟩
  clear hK
  go_wp2_with fail
  go_loopw [10, 11] (fun v10 v11 wr => ∃ (E : Option Addr) (d i : Nat), v10 = .slice E i d ∧ v11 = .int .i64 (i : Int) ∧ i ≤ 64 ∧ St w noB [own (.slice E i d) 4 1 i (blc (Pl.mbs x i))] wr) (fun a i _ => 64 - (intOf i).toNat)
  case atStart => exact ⟨some ⟨g8, 0, none⟩, 64, 0, rfl, rfl, (by decide), S15.out⟩
  case round =>
    obtain ⟨E, d, i, rfl, rfl, hin, hS⟩ := hrel
    have SL := Lib.hid hS
    clear S15 hS
    have S16 := SL
    clear SL
    go_upto_region 3 with fail
    refine wpG_region_k (fun K hK => ?_)
    refine @wpG_p _ _ _ _ _ (some 19) (.int .i64 (i : Int)) _ _ rfl (by rfl) (fun _ => rfl) ?_
    simp only [n1, n3, n4]
    refine @wpG_p _ _ _ _ _ (some 20) (.int .i64 64) _ _ rfl (by rfl) (fun _ => rfl) ?_
    simp only [n1, n3, n4]
    refine @wpG_p _ _ _ _ _ (some 21) (.bool (decide ((i : Int) < 64))) _ _ rfl (by rfl) (fun W => op_int_lss W (i : Int) 64 rfl rfl rfl Try.underlying3) ?_
    simp only [n1, n3, n4]
    refine @wpG_p _ _ _ _ _ (some 22) (.bool (decide ((i : Int) < 64))) _ _ rfl (by rfl) (fun _ => rfl) ?_
    simp only [n1, n3, n4]
    obtain ⟨c17, hc17⟩ : ∃ q_, q_ = (decide ((i : Int) < 64)) := ⟨_, rfl⟩
    rw [← hc17]
    have Hc17 := Lib.hid hc17
    clear hc17
    cases c17 with
    | true =>
      have f18 := of_decide_eq_true Hc17.out.symm
      refine @wpG_p _ _ _ _ _ (some 23) (.int .i64 (i : Int)) _ _ rfl (by rfl) (fun _ => rfl) ?_
      simp only [n1, n3, n4]
      obtain ⟨i1, h_i1⟩ : ∃ q_ : Nat, q_ = i + 1 := ⟨_, rfl⟩
      have hi1b : i1 ≤ 65 ∧ i1 = i + 1 := by omega
      have Hi1 := Lib.hid h_i1
      clear h_i1
      refine @wpG_p _ _ _ _ _ (some 24) (.int .i64 (i1 : Int)) _ _ rfl (by rfl) (fun W => op_n_add i 1 i1 Hi1.out.symm (by omega) rfl rfl rfl) ?_
      simp only [n1, n3, n4]
      refine @wpG_p _ _ _ _ _ (some 25) (.int .i64 1) _ _ rfl (by rfl) (fun _ => rfl) ?_
      simp only [n1, n3, n4]
      obtain ⟨ik, h_ik⟩ : ∃ q_ : Nat, q_ = i1 * 1 := ⟨_, rfl⟩
      have hikb : ik ≤ 65 * 8 := by rw [h_ik]; exact Nat.mul_le_mul (by omega) (by omega)
      have hike : ik ≤ i1 ∧ i1 ≤ ik := by omega
      have Hik := Lib.hid h_ik
      clear h_ik
      refine @wpG_p _ _ _ _ _ (some 26) (.int .i64 (ik : Int)) _ _ rfl (by rfl) (fun W => op_n_mul i1 1 ik Hik.out.symm (by omega) rfl rfl rfl) ?_
      simp only [n1, n3, n4]
      refine @wpG_p _ _ _ _ _ (some 27) (.string (bstr x)) _ _ rfl (by rfl) (fun _ => rfl) ?_
      simp only [n1, n3, n4]
      refine @wpG_p _ _ _ _ _ (some 28) (.int .i64 (x.length : Int)) _ _ rfl (by rfl) (fun W => op_str_len W x rfl rfl Try.underlying9) ?_
      simp only [n1, n3, n4]
      obtain ⟨L8, h_L8⟩ : ∃ q_ : Nat, q_ = x.length * 8 := ⟨_, rfl⟩
      have hL8b : L8 ≤ 512 ∧ L8 = x.length * 8 := by omega
      have HL8 := Lib.hid h_L8
      clear h_L8
      refine @wpG_p _ _ _ _ _ (some 29) (.int .i64 (L8 : Int)) _ _ rfl (by rfl) (fun W => op_n_mul x.length 8 L8 HL8.out.symm (by omega) rfl rfl rfl) ?_
      simp only [n1, n3, n4]
      refine @wpG_p _ _ _ _ _ (some 30) (.bool true) _ _ rfl (by rfl) (fun W => by have hq : ((ik : Int) ≤ (L8 : Int)) := (by omega); first | (go_simp; done) | (go_simp <;> omega)) ?_
      simp only [n1, n3, n4]
      refine @wpG_p _ _ _ _ _ (some 31) (.bool true) _ _ rfl (by rfl) (fun W => by go_simp) ?_
      simp only [n1, n3, n4]
      refine wpG_done (fun V19 hv20 => ?_)
      have S21 : Hid (St w noB [own (.slice E i d) 4 1 i (blc (Pl.mbs x i))] V19) := Lib.hid (S16.out.gr hv20)
      clear S16
      clear hv20
      refine ⟨rfl, hK _ _ ?_⟩
      clear hK
      go_upto_region 5 with fail
      refine wpG_region_k (fun K hK => ?_)
      refine @wpG_p _ _ _ _ _ (some 12) (.int .i64 0) _ _ rfl (by rfl) (fun _ => rfl) ?_
      simp only [n1, n3, n4]
      refine wpG_done (fun V22 hv23 => ?_)
      have S24 : Hid (St w noB [own (.slice E i d) 4 1 i (blc (Pl.mbs x i))] V22) := Lib.hid (S21.out.gr hv23)
      clear S21
      clear hv23
      refine ⟨rfl, hK _ _ ?_⟩
      clear hK
      go_upto_region 6 with fail
      refine wpG_region_k (fun K hK => ?_)
      refine @wpG_p _ _ _ _ _ (some 34) (.int .i64 1) _ _ rfl (by rfl) (fun _ => rfl) ?_
      simp only [n1, n3, n4]
      refine @wpG_p _ _ _ _ _ (some 35) (.int .i64 0) _ _ rfl (by rfl) (fun _ => rfl) ?_
      simp only [n1, n3, n4]
      refine wpG_done (fun V25 hv26 => ?_)
      have S27 : Hid (St w noB [own (.slice E i d) 4 1 i (blc (Pl.mbs x i))] V25) := Lib.hid (S24.out.gr hv26)
      clear S24
      clear hv26
      refine ⟨rfl, hK _ _ ?_⟩
      clear hK
      go_wp2_with fail
      go_loopw [12, 35] (fun v12 v35 wr => ∃ (b z : Nat), v12 = .int .i64 (z : Int) ∧ v35 = .int .i64 (b : Int) ∧ b ≤ 1 ∧ z = Pl.V x / 2 ^ (i * 1) % 2 ^ b ∧ St w noB [own (.slice E i d) 4 1 i (blc (Pl.mbs x i))] wr) (fun z i _ => 1 - (intOf i).toNat)
      case atStart => exact ⟨0, 0, rfl, rfl, Nat.zero_le _, (by rw [Nat.pow_zero, Nat.mod_one]), S27.out⟩
      case round =>
        obtain ⟨b, z, rfl, rfl, hbk, hze, hS⟩ := hrel
        have HZE := Lib.hid hze
        clear hze
        have SL := Lib.hid hS
        clear S27 hS
        have S28 := SL
        clear SL
        go_upto_region 7 with fail
        refine wpG_region_k (fun K hK => ?_)
        refine @wpG_p _ _ _ _ _ (some 36) (.bool (decide ((b : Int) < 1))) _ _ rfl (by rfl) (fun W => op_int_lss W (b : Int) 1 rfl rfl rfl Try.underlying3) ?_
        simp only [n1, n3, n4]
        refine wpG_done (fun V29 hv30 => ?_)
        have S31 : Hid (St w noB [own (.slice E i d) 4 1 i (blc (Pl.mbs x i))] V29) := Lib.hid (S28.out.gr hv30)
        clear S28
        clear hv30
        refine ⟨rfl, hK _ _ ?_⟩
        clear hK
        obtain ⟨c32, hc32⟩ : ∃ q_, q_ = (decide ((b : Int) < 1)) := ⟨_, rfl⟩
        rw [← hc32]
        have Hc32 := Lib.hid hc32
        clear hc32
        cases c32 with
        | true =>
          have f33 := of_decide_eq_true Hc32.out.symm
          go_upto_region 8 with fail
          refine wpG_region_k (fun K hK => ?_)
          refine @wpG_p _ _ _ _ _ (some 37) (.int .i64 (b : Int)) _ _ rfl (by rfl) (fun _ => rfl) ?_
          simp only [n1, n3, n4]
          refine @wpG_p _ _ _ _ _ (some 13) (.int .i64 (b : Int)) _ _ rfl (by rfl) (fun _ => rfl) ?_
          simp only [n1, n3, n4]
          refine wpG_done (fun V34 hv35 => ?_)
          have S36 : Hid (St w noB [own (.slice E i d) 4 1 i (blc (Pl.mbs x i))] V34) := Lib.hid (S31.out.gr hv35)
          clear S31
          clear hv35
          refine ⟨rfl, hK _ _ ?_⟩
          clear hK
          go_upto_region 9 with fail
          refine wpG_region_k (fun K hK => ?_)
          refine @wpG_p _ _ _ _ _ (some 38) (.int .i64 (z : Int)) _ _ rfl (by rfl) (fun _ => rfl) ?_
          simp only [n1, n3, n4]
          refine @wpG_p _ _ _ _ _ (some 39) (.string (bstr x)) _ _ rfl (by rfl) (fun _ => rfl) ?_
          simp only [n1, n3, n4]
          refine @wpG_p _ _ _ _ _ (some 40) (.int .i64 (i : Int)) _ _ rfl (by rfl) (fun _ => rfl) ?_
          simp only [n1, n3, n4]
          refine @wpG_p _ _ _ _ _ (some 41) (.int .i64 1) _ _ rfl (by rfl) (fun _ => rfl) ?_
          simp only [n1, n3, n4]
          obtain ⟨iw, h_iw⟩ : ∃ q_ : Nat, q_ = i * 1 := ⟨_, rfl⟩
          have hiwb : iw ≤ 65 * 8 := by rw [h_iw]; exact Nat.mul_le_mul (by omega) (by omega)
          have hiwe : iw ≤ i ∧ i ≤ iw := by omega
          have hiwk : iw + 1 = ik := by rw [h_iw, Hik.out, Hi1.out, Nat.add_mul, Nat.one_mul]
          have Hiw := Lib.hid h_iw
          clear h_iw
          refine @wpG_p _ _ _ _ _ (some 42) (.int .i64 (iw : Int)) _ _ rfl (by rfl) (fun W => op_n_mul i 1 iw Hiw.out.symm (by omega) rfl rfl rfl) ?_
          simp only [n1, n3, n4]
          refine @wpG_p _ _ _ _ _ (some 43) (.int .i64 (b : Int)) _ _ rfl (by rfl) (fun _ => rfl) ?_
          simp only [n1, n3, n4]
          obtain ⟨at_, h_at_⟩ : ∃ q_ : Nat, q_ = iw + b := ⟨_, rfl⟩
          have hatb : at_ < L8 := by omega
          have Hat_ := Lib.hid h_at_
          clear h_at_
          refine @wpG_p _ _ _ _ _ (some 44) (.int .i64 (at_ : Int)) _ _ rfl (by rfl) (fun W => op_n_add iw b at_ Hat_.out.symm (by omega) rfl rfl rfl) ?_
          simp only [n1, n3, n4]
          obtain ⟨bt, h_bt⟩ : ∃ q_ : Nat, q_ = Pl.V x / 2 ^ at_ % 2 := ⟨_, rfl⟩
          have hbtb : bt < 2 := by rw [h_bt]; exact Nat.mod_lt _ (by decide)
          have Hbt := Lib.hid h_bt
          clear h_bt
          refine @wpG_tk _ _ _ _ _ (some 45) (.int .i64 (bt : Int)) _ _ rfl (.call (f := 49) (args := #[.string (bstr x), .int .i64 (at_ : Int)]) (by rfl) (fun W => by go_simp) (fun W hg => Hbt.out ▸ bit_any x at_ W (by omega) (by omega))) ?_
          simp only [n1, n3, n4]
          refine @wpG_p _ _ _ _ _ (some 46) (.int .i64 (b : Int)) _ _ rfl (by rfl) (fun _ => rfl) ?_
          simp only [n1, n3, n4]
          have hbt7_ : bt * 2 ^ b ≤ 1 * 2 ^ 8 := Nat.mul_le_mul (by omega) (Nat.pow_le_pow_right (by decide) (by omega))
          refine @wpG_p _ _ _ _ _ (some 47) (.int .i64 ((bt * 2 ^ b : Nat) : Int)) _ _ rfl (by rfl) (fun W => op_k_shl bt b _ rfl (by show b ≤ 64; omega) (wrap_n64 (by omega)) rfl rfl rfl) ?_
          simp only [n1, n3, n4]
          have hz_ : z < 2 ^ b := by rw [HZE.out]; exact Nat.mod_lt _ (Nat.two_pow_pos _)
          have hz7_ : 2 ^ b ≤ 2 ^ 8 := Nat.pow_le_pow_right (by decide) (by omega)
          obtain ⟨z2, h_z2⟩ : ∃ q_ : Nat, q_ = z + bt * 2 ^ b := ⟨_, rfl⟩
          have hz2b : z2 ≤ 1024 := by omega
          have Hz2 := Lib.hid h_z2
          clear h_z2
          refine @wpG_p _ _ _ _ _ (some 48) (.int .i64 (z2 : Int)) _ _ rfl (by rfl) (fun W => op_n_or z bt b z2 hz_ Hz2.out.symm (by omega) rfl rfl rfl) ?_
          simp only [n1, n3, n4]
          refine @wpG_p _ _ _ _ _ (some 12) (.int .i64 (z2 : Int)) _ _ rfl (by rfl) (fun _ => rfl) ?_
          simp only [n1, n3, n4]
          refine wpG_done (fun V37 hv38 => ?_)
          have S39 : Hid (St w noB [own (.slice E i d) 4 1 i (blc (Pl.mbs x i))] V37) := Lib.hid (S36.out.gr hv38)
          clear S36
          clear hv38
          refine ⟨rfl, hK _ _ ?_⟩
          clear hK
          go_upto_region 10 with fail
          refine wpG_region_k (fun K hK => ?_)
          refine @wpG_p _ _ _ _ _ (some 49) (.int .i64 ((b : Int) + 1)) _ _ rfl (by rfl) (fun W => op_i_add W (b : Int) 1 (by omega) rfl rfl rfl Try.underlying3) ?_
          simp only [n1, n3, n4]
          refine @wpG_p _ _ _ _ _ (some 35) (.int .i64 ((b : Int) + 1)) _ _ rfl (by rfl) (fun _ => rfl) ?_
          simp only [n1, n3, n4]
          refine wpG_done (fun V40 hv41 => ?_)
          have S42 : Hid (St w noB [own (.slice E i d) 4 1 i (blc (Pl.mbs x i))] V40) := Lib.hid (S39.out.gr hv41)
          clear S39
          clear hv41
          refine ⟨rfl, hK _ _ ?_⟩
          clear hK
          go_wp2_with fail
          go_roundw
          case rel => exact ⟨b + 1, z2, (by first | rfl | go_num), (by first | rfl | go_num), (by omega), (by rw [Hz2.out, HZE.out, Hbt.out, Hat_.out, Hiw.out]; exact Pl.num_step _ _ _), S42.out⟩
          case measure => first | (simp only [intOf]; omega) | (simp [intOf]; done) | (simp [intOf]; omega) | omega
        | false =>
          have f43 := of_decide_eq_false Hc32.out.symm
          go_upto_region 11 with fail
          refine wpG_region_k (fun K hK => ?_)
          refine @wpG_p _ _ _ _ _ (some 51) (.func (.func 54) #[] #[]) _ _ rfl (by rfl) (fun _ => rfl) ?_
          simp only [n1, n3, n4]
          refine @wpG_p _ _ _ _ _ (some 52) (.int .i64 (z : Int)) _ _ rfl (by rfl) (fun _ => rfl) ?_
          simp only [n1, n3, n4]
          have hbk2_ : b = 1 := by omega
          have hzf_ : z = (Pl.fld 1 (Pl.V x)) i := by rw [HZE.out, hbk2_]; unfold Pl.fld; rw [Nat.mul_comm]
          have HZF := Lib.hid hzf_
          clear hzf_ hbk2_
          refine @wpG_tk _ _ _ _ _ (some 53) (.tuple #[.bool (decide ((z : Int) = 1)), .bool true]) _ _ rfl (.call (f := 54) (args := #[.int .i64 (z : Int)]) (by rfl) (fun W => by go_simp) (fun W hg => getMask1_any z W)) ?_
          simp only [n1, n3, n4]
          refine @wpG_p _ _ _ _ _ (some 50) (.tuple #[.bool (decide ((z : Int) = 1)), .bool true]) _ _ rfl (by rfl) (fun _ => rfl) ?_
          simp only [n1, n3, n4]
          refine @wpG_p _ _ _ _ _ (some 54) (.bool (decide ((z : Int) = 1))) _ _ rfl (by rfl) (fun W => by go_simp) ?_
          simp only [n1, n3, n4]
          refine @wpG_p _ _ _ _ _ (some 55) (.bool true) _ _ rfl (by rfl) (fun W => by go_simp) ?_
          simp only [n1, n3, n4]
          refine @wpG_p _ _ _ _ _ (some 14) (.bool (decide ((z : Int) = 1))) _ _ rfl (by rfl) (fun _ => rfl) ?_
          simp only [n1, n3, n4]
          refine @wpG_p _ _ _ _ _ (some 15) (.bool true) _ _ rfl (by rfl) (fun _ => rfl) ?_
          simp only [n1, n3, n4]
          refine wpG_done (fun V44 hv45 => ?_)
          have S46 : Hid (St w noB [own (.slice E i d) 4 1 i (blc (Pl.mbs x i))] V44) := Lib.hid (S31.out.gr hv45)
          clear S31
          clear hv45
          refine ⟨rfl, hK _ _ ?_⟩
          clear hK
          go_upto_region 12 with fail
          refine wpG_region_k (fun K hK => ?_)
          refine @wpG_p _ _ _ _ _ (some 56) (.bool true) _ _ rfl (by rfl) (fun _ => rfl) ?_
          simp only [n1, n3, n4]
          refine @wpG_p _ _ _ _ _ (some 57) (.bool false) _ _ rfl (by rfl) (fun W => by first | (go_simp; done) | (cases true <;> rfl)) ?_
          simp only [n1, n3, n4]
          refine wpG_done (fun V47 hv48 => ?_)
          have S49 : Hid (St w noB [own (.slice E i d) 4 1 i (blc (Pl.mbs x i))] V47) := Lib.hid (S46.out.gr hv48)
          clear S46
          clear hv48
          refine ⟨rfl, hK _ _ ?_⟩
          clear hK
          go_upto_region 14 with fail
          refine wpG_region_k (fun K hK => ?_)
          refine @wpG_p _ _ _ _ _ (some 58) (.slice E i d) _ _ rfl (by rfl) (fun _ => rfl) ?_
          simp only [n1, n3, n4]
          refine @wpG_p _ _ _ _ _ (some 59) (.bool (decide ((z : Int) = 1))) _ _ rfl (by rfl) (fun _ => rfl) ?_
          simp only [n1, n3, n4]
          refine wpG_val (some 60) rfl (by rfl) (fun W50 hg51 => ⟨.slice (some ⟨W50.heap.size, 0, none⟩) 1 1, W50.alloc (.cells #[.bool (decide ((z : Int) = 1))] 4), by (go_simp <;> rfl), ?_⟩)
          simp only [n1, n3, n4]
          obtain ⟨g52, U53, hg_, hu_, hS_⟩ := (S49.out.gr hg51).made [.bool (decide ((z : Int) = 1))] 4
          rw [← hu_, ← hg_]
          have S54 : Hid (St w noB [blk g52 4 [.bool (decide ((z : Int) = 1))], own (.slice E i d) 4 1 i (blc (Pl.mbs x i))] U53) := Lib.hid hS_
          clear S49
          clear hg_ hu_ hS_ hg51
          have S55 : Hid (St w noB [own (.slice E i d) 4 1 i (blc (Pl.mbs x i)), blk g52 4 [.bool (decide ((z : Int) = 1))]] U53) := Lib.hid (S54.out.front 1 rfl)
          clear S54
          refine wpG_appS (some 61) rfl rfl (.tmp 58) (.tmp 60) 68 68 rfl 4 1 1 Try.underlying68 (by kernel_rfl) (.slice E i d) i (blc (Pl.mbs x i)) S55.out (.slice (some ⟨g52, 0, none⟩) 1 1) 1 [.bool (decide ((z : Int) = 1))] (fun W hg => src_lies Try.underlying68 1 rfl (fun h => by cases h) (by intro u hu; simp at hu; rcases hu with rfl <;> rfl) ((S55.out.gr hg).liesBlk 1 rfl)) rfl rfl (by simp only [maxLen]; omega) (by omega) (fun v56 W57 hS_ => ?_)
          simp only [n1, n3, n4]
          obtain ⟨A58, k59, rfl, hle_, hcap_, _⟩ := own_shape (hS_.ownr 0 rfl)
          have S60 : Hid (St w noB [own (.slice A58 (i + 1) k59) 4 1 (i + 1) (blc (Pl.mbs x i) ++ [.bool (decide ((z : Int) = 1))]), blk g52 4 [.bool (decide ((z : Int) = 1))]] W57) := Lib.hid hS_
          clear S55
          clear hS_
          refine @wpG_p _ _ _ _ _ (some 10) (.slice A58 (i + 1) k59) _ _ rfl (by rfl) (fun _ => rfl) ?_
          simp only [n1, n3, n4]
          refine wpG_done (fun V61 hv62 => ?_)
          have S63 : Hid (St w noB [own (.slice A58 (i + 1) k59) 4 1 (i + 1) (blc (Pl.mbs x i) ++ [.bool (decide ((z : Int) = 1))]), blk g52 4 [.bool (decide ((z : Int) = 1))]] V61) := Lib.hid (S60.out.gr hv62)
          clear S60
          clear hv62
          refine ⟨rfl, hK _ _ ?_⟩
          clear hK
          go_upto_region 4 with fail
          refine wpG_region_k (fun K hK => ?_)
          refine @wpG_p _ _ _ _ _ (some 32) (.int .i64 (i : Int)) _ _ rfl (by rfl) (fun _ => rfl) ?_
          simp only [n1, n3, n4]
          refine @wpG_p _ _ _ _ _ (some 33) (.int .i64 ((i : Int) + 1)) _ _ rfl (by rfl) (fun W => op_i_add W (i : Int) 1 (by omega) rfl rfl rfl Try.underlying3) ?_
          simp only [n1, n3, n4]
          refine @wpG_p _ _ _ _ _ (some 11) (.int .i64 ((i : Int) + 1)) _ _ rfl (by rfl) (fun _ => rfl) ?_
          simp only [n1, n3, n4]
          refine wpG_done (fun V64 hv65 => ?_)
          have S66 : Hid (St w noB [own (.slice A58 (i + 1) k59) 4 1 (i + 1) (blc (Pl.mbs x i) ++ [.bool (decide ((z : Int) = 1))]), blk g52 4 [.bool (decide ((z : Int) = 1))]] V64) := Lib.hid (S63.out.gr hv65)
          clear S63
          clear hv65
          refine ⟨rfl, hK _ _ ?_⟩
          clear hK
          go_wp2_with fail
          go_roundw
          have S67 : Hid (St w noB [own (.slice A58 (i + 1) k59) 4 1 (i + 1) (blc (Pl.mbs x i) ++ [.bool (decide ((z : Int) = 1))])] V64) := Lib.hid (S66.out.sub (.cons_cons _ (.cons _ .slnil)))
          clear S66
          case rel => exact ⟨A58, k59, i + 1, (by first | rfl | go_num), (by first | rfl | go_num), (by omega), (by have h_ := S67.out; rw [show (decide ((z : Int) = 1)) = Pl.mb x i from by rw [HZF.out]; exact Pl.mb_fld x i] at h_; rw [Pl.mbs_succ]; unfold blc; rw [List.map_append]; exact h_)⟩
          case measure => first | (simp only [intOf]; omega) | (simp [intOf]; done) | (simp [intOf]; omega) | omega
    | false =>
      have f68 := of_decide_eq_false Hc17.out.symm
      refine @wpG_no _ _ _ _ _ (some 23) _ _ rfl (by rfl) ?_
      simp only [n1, n3, n4]
      refine @wpG_no _ _ _ _ _ (some 24) _ _ rfl (by rfl) ?_
      simp only [n1, n3, n4]
      refine @wpG_no _ _ _ _ _ (some 25) _ _ rfl (by rfl) ?_
      simp only [n1, n3, n4]
      refine @wpG_no _ _ _ _ _ (some 26) _ _ rfl (by rfl) ?_
      simp only [n1, n3, n4]
      refine @wpG_no _ _ _ _ _ (some 27) _ _ rfl (by rfl) ?_
      simp only [n1, n3, n4]
      refine @wpG_no _ _ _ _ _ (some 28) _ _ rfl (by rfl) ?_
      simp only [n1, n3, n4]
      refine @wpG_no _ _ _ _ _ (some 29) _ _ rfl (by rfl) ?_
      simp only [n1, n3, n4]
      refine @wpG_no _ _ _ _ _ (some 30) _ _ rfl (by rfl) ?_
      simp only [n1, n3, n4]
      refine @wpG_p _ _ _ _ _ (some 31) (.bool false) _ _ rfl (by rfl) (fun W => by go_simp) ?_
      simp only [n1, n3, n4]
      refine wpG_done (fun V69 hv70 => ?_)
      have S71 : Hid (St w noB [own (.slice E i d) 4 1 i (blc (Pl.mbs x i))] V69) := Lib.hid (S16.out.gr hv70)
      clear S16
      clear hv70
      refine ⟨rfl, hK _ _ ?_⟩
      clear hK
      go_upto_region 15 with fail
      refine wpG_region_k (fun K hK => ?_)
      refine @wpG_p _ _ _ _ _ (some 62) (.int .i64 64) _ _ rfl (by rfl) (fun _ => rfl) ?_
      simp only [n1, n3, n4]
      refine @wpG_p _ _ _ _ _ (some 63) (.int .i64 1) _ _ rfl (by rfl) (fun _ => rfl) ?_
      simp only [n1, n3, n4]
      obtain ⟨nk, h_nk⟩ : ∃ q_ : Nat, q_ = 64 * 1 := ⟨_, rfl⟩
      have hnkb : nk ≤ 65 * 8 := by rw [h_nk]; exact Nat.mul_le_mul (by omega) (by omega)
      have hnke : nk ≤ 64 ∧ 64 ≤ nk := by omega
      have Hnk := Lib.hid h_nk
      clear h_nk
      refine @wpG_p _ _ _ _ _ (some 64) (.int .i64 (nk : Int)) _ _ rfl (by rfl) (fun W => op_n_mul 64 1 nk Hnk.out.symm (by omega) rfl rfl rfl) ?_
      simp only [n1, n3, n4]
      refine @wpG_p _ _ _ _ _ (some 16) (.int .i64 (nk : Int)) _ _ rfl (by rfl) (fun _ => rfl) ?_
      simp only [n1, n3, n4]
      refine wpG_done (fun V72 hv73 => ?_)
      have S74 : Hid (St w noB [own (.slice E i d) 4 1 i (blc (Pl.mbs x i))] V72) := Lib.hid (S71.out.gr hv73)
      clear S71
      clear hv73
      refine ⟨rfl, hK _ _ ?_⟩
      clear hK
      go_wp2_with fail
      go_loopw [16] (fun v16 wr => ∃ (a : Nat), v16 = .int .i64 (a : Int) ∧ nk ≤ a ∧ (∀ j, nk ≤ j → j < a → Pl.V x / 2 ^ j % 2 = 0) ∧ St w noB [own (.slice E i d) 4 1 i (blc (Pl.mbs x i))] wr) (fun i _ => x.length * 8 - (intOf i).toNat)
      case atStart => exact ⟨nk, rfl, Nat.le_refl _, (fun j h1_ h2_ => absurd h2_ (by omega)), S74.out⟩
      case round =>
        obtain ⟨a, rfl, han, htl, hS⟩ := hrel
        have HTL := Lib.hid htl
        clear htl
        have SL := Lib.hid hS
        clear S74 hS
        have S75 := SL
        clear SL
        go_upto_region 16 with fail
        refine wpG_region_k (fun K hK => ?_)
        refine @wpG_p _ _ _ _ _ (some 65) (.int .i64 (a : Int)) _ _ rfl (by rfl) (fun _ => rfl) ?_
        simp only [n1, n3, n4]
        refine @wpG_p _ _ _ _ _ (some 66) (.string (bstr x)) _ _ rfl (by rfl) (fun _ => rfl) ?_
        simp only [n1, n3, n4]
        refine @wpG_p _ _ _ _ _ (some 67) (.int .i64 (x.length : Int)) _ _ rfl (by rfl) (fun W => op_str_len W x rfl rfl Try.underlying9) ?_
        simp only [n1, n3, n4]
        obtain ⟨L9, h_L9⟩ : ∃ q_ : Nat, q_ = x.length * 8 := ⟨_, rfl⟩
        have hL9b : L9 ≤ 512 ∧ L9 = x.length * 8 := by omega
        have HL9 := Lib.hid h_L9
        clear h_L9
        refine @wpG_p _ _ _ _ _ (some 68) (.int .i64 (L9 : Int)) _ _ rfl (by rfl) (fun W => op_n_mul x.length 8 L9 HL9.out.symm (by omega) rfl rfl rfl) ?_
        simp only [n1, n3, n4]
        refine @wpG_p _ _ _ _ _ (some 69) (.bool false) _ _ rfl (by rfl) (fun W => by have hq : ¬ ((a : Int) < (L9 : Int)) := (by omega); first | (go_simp; done) | (go_simp <;> omega)) ?_
        simp only [n1, n3, n4]
        refine wpG_done (fun V76 hv77 => ?_)
        have S78 : Hid (St w noB [own (.slice E i d) 4 1 i (blc (Pl.mbs x i))] V76) := Lib.hid (S75.out.gr hv77)
        clear S75
        clear hv77
        refine ⟨rfl, hK _ _ ?_⟩
        clear hK
        go_upto_region 20 with fail
        refine wpG_region_k (fun K hK => ?_)
        refine @wpG_p _ _ _ _ _ (some 76) (.slice E i d) _ _ rfl (by rfl) (fun _ => rfl) ?_
        simp only [n1, n3, n4]
        refine @wpG_p _ _ _ _ _ (some 8) (.slice E i d) _ _ rfl (by rfl) (fun _ => rfl) ?_
        simp only [n1, n3, n4]
        refine @wpG_p _ _ _ _ _ (some 9) (.bool true) _ _ rfl (by rfl) (fun _ => rfl) ?_
        simp only [n1, n3, n4]
        refine wpG_done (fun V79 hv80 => ?_)
        have S81 : Hid (St w noB [own (.slice E i d) 4 1 i (blc (Pl.mbs x i))] V79) := Lib.hid (S78.out.gr hv80)
        clear S78
        clear hv80
        refine ⟨rfl, hK _ _ ?_⟩
        clear hK
        go_wp2_with fail
        go_ret2
        (obtain rfl : i = 64 := (by omega); exact ⟨E, d, rfl, S81.out⟩)

end Go.Proofs.Ytfomieekdbkcnaa
