/-
  Contracts of the reference's encoders.
-/
import Derived.Test.YtdbdlhgkhnenfaaDoorGf
import Derived.Test.YtdbdlhgkhnenfaaDoorGa
import Derived.Test.YtdbdlhgkhnenfaaDoorGb
namespace Go.Proofs.YtdbdlhgkhnenfaaDoor
open Go.RowKit

set_option maxRecDepth 1000000 in
set_option maxHeartbeats 400000 in
theorem refInts_any (l : List Int) (A : Option Addr) (n c : Nat) (w : World) (hn : l.length = n) (hf : Fits l) (h : Lies w A (l.map iv)) (hlen : (Wm.encIs l).length ≤ 70368744170000) (hn2 : n ≤ 140737488355328) :
    Calls Tryd.prog 53 #[.slice A n c] w fun e w' => ∃ v', e = .returned v' ∧ w'.ownsRow w.heap.size 5 1 v' (Wm.encIs l).length ((Wm.encIs l).map bv) ∧ Below w.heap.size w w' := by
  obtain ⟨i0, hi, hz0, hz1, hz2⟩ := info_parts Tryd.infoU8
  have HL := Lib.hid h
  have HN := Lib.hid hn
  have HF := Lib.hid hf
  have HE := Lib.hid hlen
  clear h hn hf hlen
  go_enter Tryd.func53, Tryd.ntmps53
  go_wp2_with fail
  refine (refInt_any (n : Int) w (by omega) (by omega)).mono ?_
  rintro e w1 ⟨v1, rfl, ho, hb⟩
  go_wp2_with fail
  go_loopw [3, 4] (fun b i wr => ∃ k : Nat, i = .int .i64 (k : Int) ∧ k ≤ n ∧ wr.ownsRow w.heap.size 5 1 b (Wm.encI (n : Int) ++ (l.take k).flatMap Wm.encI).length ((Wm.encI (n : Int) ++ (l.take k).flatMap Wm.encI).map bv) ∧ Below w.heap.size w wr)
    (fun _ i _ => n - (intOf i).toNat)
  case atStart => exact ⟨0, rfl, by omega, by simpa using ho, hb⟩
  case round =>
    obtain ⟨k, rfl, hk, hown, hbel⟩ := hrel
    have hsz := hbel.size
    by_cases hlt : k < n
    · have hkl : k < l.length := by rw [HN.out]; exact hlt
      obtain ⟨b, o, hA, _⟩ := HL.out.at_ (by simpa using List.ne_nil_of_length_pos (show 0 < l.length by omega))
      subst hA
      have hx := List.getElem?_eq_getElem hkl
      generalize l[k] = x at hx
      have hc : wr.cell? ⟨b, o + k, none⟩ = some (.int .i64 x) := (HL.out.below hbel).at1 (by rw [List.getElem?_map, hx]; rfl)
      have hxf := HF.out x (List.mem_of_getElem? hx)
      have hx10 := Wm.encI_len x hxf.1 hxf.2
      have hfs := Wm.flat_succ Wm.encI l k x hx
      have hle := Wm.flat_take Wm.encI l k
      have hEE := HE.out
      unfold Wm.encIs at hEE
      rw [List.length_append, HN.out] at hEE
      have hkk : (Wm.encI (n : Int) ++ (l.take k).flatMap Wm.encI).length ≤ 70368744177664 := by rw [List.length_append]; omega
      have HS := Lib.hid hfs
      have HK := Lib.hid hkk
      have HX10 := Lib.hid hx10
      clear hx hkl hfs hle hEE hkk hx10
      go_wp2_with fail
      refine (refInt_any x wr hxf.1 hxf.2).mono ?_
      rintro e w2 ⟨v2, rfl, ho2, hb2⟩
      obtain ⟨A2, c2, rfl, _, _, l2⟩ := own_shape ho2
      have L2 := Lib.hid l2
      have hown2 := own_below hown hb2
      have hsz2 := hb2.size
      have HB := Lib.hid (hbel.trans (hb2.mono hsz))
      clear ho2 l2 hb2 hown hbel
      go_wp2_with (at_builtin; go_loud (refine wpList_append_onto_src w2 rfl _ _ 43 43 rfl w.heap.size 5 i0 (.int .u8 0) 1 1 Tryd.underlying43 hi hz0 hz1 hz2 rfl _ _ _ hown2 (.slice A2 (Wm.encI x).length c2) (Wm.encI x).length _ (src_own rfl L2.out) rfl rfl ?c1 ?c2 ?c3 ?_))
      case c1 => have := HX10.out; have := HK.out; unfold maxLen; omega
      case c2 => have := HX10.out; have := HK.out; omega
      case c3 => omega
      intro v3 w3 ho3 hb3
      go_wp2_with fail
      go_roundw
      case rel =>
        refine ⟨k + 1, by go_num, by omega, ?_, HB.out.trans hb3⟩
        rw [HS.out, ← List.append_assoc]
        simpa [Nat.add_assoc] using ho3
      case measure => simp [intOf]; omega
    · have hkn : k = n := by omega
      subst hkn
      go_wp2
      go_ret
      refine ⟨_, rfl, ?_, hbel⟩
      unfold Wm.encIs
      rw [HN.out]
      rw [List.take_of_length_le (by rw [HN.out]; exact Nat.le_refl _)] at hown
      exact hown

set_option maxRecDepth 1000000 in
set_option maxHeartbeats 400000 in
theorem refDigests_any (l : List (List UInt8)) (A : Option Addr) (n c : Nat) (w : World) (hn : l.length = n) (hf : Is16 l) (h : Lies w A (dcells l)) (hn2 : n ≤ 4398046511104) :
    Calls Tryd.prog 61 #[.slice A n c] w fun e w' => ∃ v', e = .returned v' ∧ w'.ownsRow w.heap.size 5 1 v' (Wm.encDs l).length ((Wm.encDs l).map bv) ∧ Below w.heap.size w w' := by
  obtain ⟨i0, hi, hz0, hz1, hz2⟩ := info_parts Tryd.infoU8
  have HL := Lib.hid h
  have HN := Lib.hid hn
  have HF := Lib.hid hf
  clear h hn hf
  go_enter Tryd.func61, Tryd.ntmps61
  go_wp2_with fail
  refine (refInt_any (n : Int) w (by omega) (by omega)).mono ?_
  rintro e w1 ⟨v1, rfl, ho, hb⟩
  go_wp2_with fail
  go_loopw [3, 4] (fun b i wr => ∃ k : Nat, i = .int .i64 (k : Int) ∧ k ≤ n ∧ wr.ownsRow w.heap.size 5 1 b (Wm.encI (n : Int) ++ (l.take k).flatten).length ((Wm.encI (n : Int) ++ (l.take k).flatten).map bv) ∧ Below w.heap.size w wr)
    (fun _ i _ => n - (intOf i).toNat)
  case atStart => exact ⟨0, rfl, by omega, by simpa using ho, hb⟩
  case round =>
    obtain ⟨k, rfl, hk, hown, hbel⟩ := hrel
    have hsz := hbel.size
    by_cases hlt : k < n
    · have hkl : k < l.length := by rw [HN.out]; exact hlt
      have hfl := flatten_len HF.out
      obtain ⟨b, o, hA, _⟩ := HL.out.at_ (by
        have : 0 < (dcells l).length := by unfold dcells; rw [List.length_map, hfl]; omega
        exact List.ne_nil_of_length_pos this)
      subst hA
      have hx := List.getElem?_eq_getElem hkl
      generalize l[k] = x at hx
      have hxf := HF.out x (List.mem_of_getElem? hx)
      have hc : Lies wr (some ⟨b, o + k * 16, none⟩) (x.map bv) := by
        have h1 := ((HL.out.below hbel).drop (k * 16)).take 16
        unfold dcells at h1
        rw [← List.map_drop, ← List.map_take, flatten_part HF.out hx] at h1
        exact h1
      have hfs : (l.take (k + 1)).flatten = (l.take k).flatten ++ x := by
        rw [List.take_succ_eq_append_getElem hkl, List.flatten_append]
        rw [List.getElem?_eq_getElem hkl] at hx; injection hx with hx; simp [hx]
      have htl : (l.take k).flatten.length = k * 16 := by
        rw [flatten_len (fun d hd => HF.out d (List.mem_of_mem_take hd)), List.length_take]; omega
      have hEn := Wm.encI_len (n : Int) (by omega) (by omega)
      have hkk : (Wm.encI (n : Int) ++ (l.take k).flatten).length ≤ 70368744177664 := by rw [List.length_append]; omega
      have HS := Lib.hid hfs
      have HK := Lib.hid hkk
      have HC := Lib.hid hc
      have HX := Lib.hid hxf
      clear hx hkl hfs htl hEn hkk hc hxf hfl
      go_wp2_with (at_builtin; go_loud (refine wpList_append_onto_src wr rfl _ _ 43 43 rfl w.heap.size 5 i0 (.int .u8 0) 1 1 Tryd.underlying43 hi hz0 hz1 hz2 rfl _ _ _ hown (.slice (some ⟨b, o + k * 16, none⟩) 16 16) 16 _ (src_own HX.out HC.out) rfl rfl ?c1 ?c2 ?c3 ?_))
      case c1 => have := HK.out; unfold maxLen; omega
      case c2 => have := HK.out; omega
      case c3 => exact hsz
      intro v3 w3 ho3 hb3
      go_wp2_with fail
      go_roundw
      case rel =>
        refine ⟨k + 1, by go_num, by omega, ?_, hbel.trans hb3⟩
        rw [HS.out, ← List.append_assoc]
        simpa [Nat.add_assoc, HX.out] using ho3
      case measure => simp [intOf]; omega
    · have hkn : k = n := by omega
      subst hkn
      go_wp2
      go_ret
      refine ⟨_, rfl, ?_, hbel⟩
      unfold Wm.encDs
      rw [HN.out]
      rw [List.take_of_length_le (by rw [HN.out]; exact Nat.le_refl _)] at hown
      exact hown

end Go.Proofs.YtdbdlhgkhnenfaaDoor
/-
  Contracts of the reference's decoders: an integer.
-/
namespace Go.Proofs.YtdbdlhgkhnenfaaDoor
open Go.RowKit

set_option maxRecDepth 1000000 in
set_option maxHeartbeats 400000 in
theorem refGetInt_nil (A : Option Addr) (c : Nat) (w : World) :
    Calls Tryd.prog 43 #[.slice A 0 c] w (IntPost (Wm.getI []) w) := by
  go_enter Tryd.func43, Tryd.ntmps43
  go_wp2_with fail
  refine wp_loop_rounds 1 ?_
  rw [rounds_succ]
  go_wp2_with fail
  go_ret3
  exact ⟨rfl, rfl⟩

set_option maxRecDepth 1000000 in
set_option maxHeartbeats 1000000 in
theorem refGetInt_some (l : List UInt8) (b o c : Nat) (w : World) (hlen : l.length ≤ 140737488355328)
    (hc : ∀ j, j < l.length → w.cell? ⟨b, o + j, none⟩ = some (.int .u8 ((l.getD j 0).toNat : Int))) :
    Calls Tryd.prog 43 #[.slice (some ⟨b, o, none⟩) l.length c] w (IntPost (Wm.getI l) w) := by
  have HC := Lib.hid hc
  clear hc
  go_enter Tryd.func43, Tryd.ntmps43
  go_wp2_with fail
  go_loop [5] (fun i => ∃ k : Nat, i = .int .i64 (k : Int) ∧ k ≤ 10 ∧ k ≤ l.length ∧ ∀ j, j < k → 128 ≤ (l.getD j 0).toNat) (fun i => 10 - (intOf i).toNat)
  case atStart => exact ⟨0, rfl, by omega, by omega, fun j hj => by omega⟩
  case round =>
    obtain ⟨k, rfl, hk10, hkl, hd⟩ := hrel
    have HD := Lib.hid hd
    clear hd
    by_cases hten : k = 10
    · subst hten
      have G := Lib.hid (Wm.ref_ten l hkl HD.out)
      clear HD
      by_cases hlt : 10 < l.length
      · have hli : (10 : Int) < (l.length : Int) := by omega
        go_wp2_with fail
        go_ret3
        exact ⟨by rw [G.out]; rfl, rfl⟩
      · have hli : ¬ (10 : Int) < (l.length : Int) := by omega
        go_wp2_with fail
        go_ret3
        exact ⟨by rw [G.out]; rfl, rfl⟩
    · by_cases hlt : k < l.length
      · have hcx := HC.out k hlt
        have h256 := (l.getD k 0).toNat_lt
        have hki : (k : Int) < (l.length : Int) := by omega
        have hk9i : (k : Int) < 10 := by omega
        have hten2 : ((k : Int) == 10) = false := by simp; omega
        have hne : ((k : Int) == (l.length : Int)) = false := by simp; omega
        generalize hx : (l.getD k 0).toNat = d at hcx h256
        have HX := Lib.hid hx
        clear hx
        by_cases hge : 128 ≤ d
        · go_wp2_with fail
          go_round
          case rel =>
            refine ⟨k + 1, by go_num, by omega, by omega, fun j hj => ?_⟩
            rcases Nat.lt_or_ge j k with h | h
            · exact HD.out j h
            · rw [show j = k from by omega, HX.out]; exact hge
          case measure => simp [intOf]; omega
        · have hlt128 : (d : Int) < 128 := by omega
          by_cases hbad : k = 9 ∧ 1 < d ∨ 0 < k ∧ d = 0
          · have G := Lib.hid (Wm.ref_bad l k hlt (by omega) HD.out (by rw [HX.out]; exact hbad))
            clear HD
            by_cases h9 : k = 9
            · subst h9
              rcases Nat.lt_or_ge 1 d with hd1 | hd1
              · go_wp2_with fail
                go_ret3
                exact ⟨by rw [G.out]; rfl, rfl⟩
              · obtain rfl : d = 0 := by omega
                clear hbad
                go_wp2_with fail
                go_ret3
                exact ⟨by rw [G.out]; rfl, rfl⟩
            · have hk0 : 0 < k := by omega
              have hd0 : ((d : Int) == 0) = true := by simp; omega
              have h9b : ((k : Int) == 9) = false := by simp; omega
              clear hbad h9
              go_wp2_with fail
              go_ret3
              exact ⟨by rw [G.out]; rfl, rfl⟩
          · have hg := Wm.ref_good l k hlt (by omega) HD.out (by rw [HX.out]; omega) (by rw [HX.out]; omega) (by rw [HX.out]; omega)
            obtain ⟨hg1, hg2⟩ := hg
            have G := Lib.hid hg1
            have HB := Lib.hid hg2
            clear hg1 hg2 HD
            have hd9 : k = 9 → d ≤ 1 := by omega
            have hd0 : 0 < k → 0 < d := by omega
            clear hbad
            have H3 : (((k : Int) == 9) = true ∧ 0 < k ∧ ((d : Int) == 0) = false ∧ d ≤ 1) ∨ (((k : Int) == 9) = false ∧ 0 < k ∧ ((d : Int) == 0) = false) ∨ (((k : Int) == 9) = false ∧ ¬ 0 < k) := by
              by_cases q1 : k = 9
              · exact .inl ⟨by simp; omega, by omega, by simp; omega, hd9 q1⟩
              · by_cases q2 : 0 < k
                · exact .inr (.inl ⟨by simp; omega, q2, by have := hd0 q2; simp; omega⟩)
                · exact .inr (.inr ⟨by simp; omega, q2⟩)
            clear hd9 hd0
            rcases H3 with ⟨t1, t2, t3, t4⟩ | ⟨t1, t2, t3⟩ | ⟨t1, t2⟩
            all_goals
              go_wp2_with fail
              go_loop [6, 7] (fun z i => ∃ z' m : Nat, z = .int .u64 (z' : Int) ∧ i = .int .i64 ((m : Int) - 1) ∧ m ≤ k + 1 ∧ z' * 128 ^ m + Wm.low l m = Wm.low l (k + 1)) (fun _ i => (intOf i + 1).toNat)
              case atStart => exact ⟨0, k + 1, rfl, by go_num, by omega, by simp⟩
              case round =>
                obtain ⟨z', m, rfl, rfl, hm, hz⟩ := hrel
                have HZ := Lib.hid hz
                have hzb := Wm.low_bd z' m _ _ hz
                have HB2 := HB.out
                clear hz
                by_cases hm0 : m = 0
                · subst hm0
                  have hz0 : z' = Wm.low l (k + 1) := by have := HZ.out; simpa [Wm.low] using this
                  have HZ0 := Lib.hid hz0
                  have hz64 : z' < 18446744073709551616 := by omega
                  clear hz0 hzb HB2
                  by_cases hodd : z' % 2 = 1
                  · have hob : ((z' : Int) % 2 == 1) = true := by simp; omega
                    have E := Lib.hid (show -1 - (z' : Int) / 2 = Wm.zag z' by unfold Wm.zag; rw [if_pos hodd]; omega)
                    clear hodd
                    go_wp2_with fail
                    go_ret3
                    refine ⟨?_, rfl⟩
                    rw [G.out, ← HZ0.out, ← E.out]
                    rfl
                  · have hob : ((z' : Int) % 2 == 1) = false := by simp; omega
                    have E := Lib.hid (show (z' : Int) / 2 = Wm.zag z' by unfold Wm.zag; rw [if_neg hodd]; omega)
                    clear hodd
                    go_wp2_with fail
                    go_ret3
                    refine ⟨?_, rfl⟩
                    rw [G.out, ← HZ0.out, ← E.out]
                    rfl
                · obtain ⟨p, rfl⟩ : ∃ p, m = p + 1 := ⟨m - 1, by omega⟩
                  have hcp := HC.out p (by omega)
                  have h256p := (l.getD p 0).toNat_lt
                  have hs := Wm.low_step l p z' _ HZ.out
                  have hsb := Wm.low_bd _ p _ _ hs
                  generalize hy : (l.getD p 0).toNat = y at hcp h256p hs hsb
                  have HS := Lib.hid hs
                  have hzz : z' * 128 + y % 128 < 18446744073709551616 := by omega
                  have hzi : (z' : Int) * 128 + (y : Int) % 128 < 18446744073709551616 := by omega
                  have hpi : (p : Int) < (l.length : Int) := by omega
                  have ep : ((p + 1 : Nat) : Int) - 1 = (p : Int) := by omega
                  rw [ep]
                  clear hs hsb hy hzb HB2 hm0 hzz
                  go_wp2_with fail
                  go_round
                  case rel => exact ⟨z' * 128 + y % 128, p, by go_num, by go_num, by omega, HS.out⟩
                  case measure => simp [intOf]
      · have hkn : k = l.length := by omega
        have G := Lib.hid (Wm.ref_cut l (by omega) (by rw [← hkn]; exact HD.out))
        subst hkn
        clear HD
        have hten2 : ((l.length : Int) == 10) = false := by simp; omega
        go_wp2_with fail
        go_ret3
        exact ⟨by rw [G.out]; rfl, rfl⟩

end Go.Proofs.YtdbdlhgkhnenfaaDoor
/-
  Contracts of the reference's decoders: a length, a string, lists of integers and strings.
-/
namespace Go.Proofs.YtdbdlhgkhnenfaaDoor
open Go.RowKit

theorem refGetInt_any (l : List UInt8) (A : Option Addr) (n c : Nat) (w : World) (hn : l.length = n) (hlen : n ≤ 140737488355328) (h : Lies w A (l.map bv)) :
    Calls Tryd.prog 43 #[.slice A n c] w (IntPost (Wm.getI l) w) := by
  subst hn
  by_cases hl : l = []
  · subst hl; exact refGetInt_nil A c w
  · obtain ⟨b, o, rfl, _⟩ := h.at_ (by simpa using hl)
    exact refGetInt_some l b o c w hlen h.cells8

end Go.Proofs.YtdbdlhgkhnenfaaDoor
