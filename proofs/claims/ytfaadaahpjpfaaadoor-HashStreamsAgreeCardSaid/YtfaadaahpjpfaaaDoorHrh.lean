/-
  Contracts of voxelref02: digests.
-/
import Derived.Test.YtfaadaahpjpfaaaDoorHre
import Derived.Test.YtfaadaahpjpfaaaDoorHof
import Derived.Test.YtfaadaahpjpfaaaDoorEnca
namespace Go.Proofs.YtfaadaahpjpfaaaDoor
open Go.RowKit

/-- at most 12 strings of at most 400 bytes -/
def Few (l : List (List UInt8)) : Prop := l.length ≤ 12 ∧ ∀ s ∈ l, s.length ≤ 400
theorem Few.small {l : List (List UInt8)} (h : Few l) : Small l := ⟨by have := h.1; omega, fun s hs => by have := h.2 s hs; omega⟩
/-- the answer of Few -/
def FewP (l : List (List UInt8)) (w : World) (e : Ending) (w' : World) : Prop := ∃ b : Bool, e = .returned (.bool b) ∧ (b = true → Few l) ∧ w = w'
theorem Few.len {l : List (List UInt8)} (h : Few l) : l.length ≤ 12 := h.1

set_option maxRecDepth 1000000 in
set_option maxHeartbeats 400000 in
theorem hrFew_any (l : List (List UInt8)) (A : Option Addr) (n c : Nat) (w : World) (hn : l.length = n) (hl : Lies w A (l.map sv)) (hs : ∀ s ∈ l, s.length ≤ 140737488351232) (hnb : n ≤ 140737488351232) :
    Calls Tryd.prog 13 #[.slice A n c] w (FewP l w) := by
  have HL := Lib.hid hl
  have HN := Lib.hid hn
  have HS := Lib.hid hs
  clear hl hn hs
  go_enter Tryd.func13, Tryd.ntmps13
  by_cases h12 : n ≤ 12
  · go_wp2_with fail
    go_loop [3] (fun i => ∃ k : Nat, i = .int .i64 (k : Int) ∧ k ≤ n ∧ ∀ s ∈ l.take k, s.length ≤ 400) (fun i => n - (intOf i).toNat)
    case atStart => exact ⟨0, rfl, by omega, fun s h => by simp at h⟩
    case round =>
      obtain ⟨k, rfl, hk, hm⟩ := hrel
      have HM := Lib.hid hm
      clear hm
      by_cases hlt : k < n
      · have hkl : k < l.length := by rw [HN.out]; exact hlt
        obtain ⟨b, o, hA, _⟩ := HL.out.at_ (by simpa using List.ne_nil_of_length_pos (show 0 < l.length by omega))
        subst hA
        have hx := List.getElem?_eq_getElem hkl
        have hxs := HS.out l[k] (List.getElem_mem hkl)
        have htk : l.take (k + 1) = l.take k ++ [l[k]] := List.take_succ_eq_append_getElem hkl
        generalize l[k] = x at hx hxs htk
        have hc : w.cell? ⟨b, o + k, none⟩ = some (.string (bstr x)) := HL.out.at1 (by rw [List.getElem?_map, hx]; rfl)
        have hbs : (bstr x).size = x.length := bstr_size x
        have HT := Lib.hid htk
        clear hx hkl htk
        by_cases h4 : x.length ≤ 400
        · have HX := Lib.hid (show ∀ s ∈ l.take (k + 1), s.length ≤ 400 by
            rw [HT.out]; intro s hs
            rcases List.mem_append.1 hs with h | h
            · exact HM.out s h
            · rw [List.mem_singleton.1 h]; exact h4)
          go_wp2_with fail
          first
            | exact ⟨⟨k + 1, by go_num, by omega, HX.out⟩, by simp [intOf]; omega⟩
            | (go_round
               case rel => exact ⟨k + 1, by go_num, by omega, HX.out⟩
               case measure => simp [intOf]; omega)
        · go_wp2_with fail
          go_ret
          exact ⟨false, rfl, (fun h => Bool.noConfusion h), rfl⟩
      · have hkn : k = n := by omega
        subst hkn
        go_wp2_with fail
        go_ret
        exact ⟨true, rfl, fun _ => ⟨by rw [HN.out]; exact h12, fun s hs => HM.out s (by rw [List.take_of_length_le (by rw [HN.out]; exact Nat.le_refl _)]; exact hs)⟩, rfl⟩
  · go_wp2_with fail
    go_ret
    exact ⟨false, rfl, (fun h => Bool.noConfusion h), rfl⟩

set_option maxRecDepth 1000000 in
set_option maxHeartbeats 1000000 in
/-- the input of a digest -/
theorem hrInput_any (tag : Int) (l : List (List UInt8)) (A : Option Addr) (n c : Nat) (w : World) (hn : l.length = n) (hl : Lies w A (l.map sv)) (hs : Small l) :
    Calls Tryd.prog 23 #[.int .i64 tag, .slice A n c] w fun e w' => ∃ v, e = .returned v ∧ w'.ownsRow w.heap.size 5 1 v (inOf tag l).length ((inOf tag l).map bv) ∧ Below w.heap.size w w' := by
  obtain ⟨i0, hi, hz0, hz1, hz2⟩ := info_parts Tryd.infoU8
  have HS := Lib.hid hs
  have HN := Lib.hid hn
  have HLL := Lib.hid hl
  have hnb : n ≤ 1000 := by have := hs.1; omega
  clear hs hn hl
  go_enter Tryd.func23, Tryd.ntmps23
  go_wp2_with fail
  go_loopw [5, 6] (fun b i wr => ∃ k m : Nat, i = .int .i64 (k : Int) ∧ k ≤ n ∧ m = (inOf tag (l.take k)).length ∧ wr.ownsRow w.heap.size 5 1 b m ((inOf tag (l.take k)).map bv) ∧ Below w.heap.size w wr) (fun _ i _ => n - (intOf i).toNat)
  case atStart =>
    have hb1 : bv (UInt8.ofNat (tag % 256).toNat) = .int .u8 (tag % 256) := by
      unfold bv
      have h : (UInt8.ofNat (tag % 256).toNat).toNat = (tag % 256).toNat := by simp; omega
      rw [h]; congr 1; omega
    refine ⟨0, 1, rfl, by omega, rfl, ⟨rfl, .inr ⟨w.heap.size, 1, #[Value.int .u8 (tag % 256)], rfl, Nat.le_refl _, heap_alloc_new w _, Nat.le_refl _, by unfold maxLen; omega, rfl, ?_⟩⟩, (Below.refl _ _).alloc (Nat.le_refl _) _⟩
    show [Value.int .u8 (tag % 256)] = [bv (UInt8.ofNat (tag % 256).toNat)]
    rw [hb1]
  case round =>
    obtain ⟨k, m, rfl, hk, hm, hown, hb⟩ := hrel
    by_cases hlt : k < n
    · have hkl : k < l.length := by rw [HN.out]; exact hlt
      obtain ⟨b, o, hA, _⟩ := HLL.out.at_ (by simpa using List.ne_nil_of_length_pos (show 0 < l.length by omega))
      have hx := List.getElem?_eq_getElem hkl
      have hsn := inOf_snoc tag (l.take k) l[k]
      rw [← List.take_succ_eq_append_getElem hkl] at hsn
      have hsl := HS.out.2 l[k] (List.getElem_mem hkl)
      generalize l[k] = x at hx hsn hsl
      have hc : wr.cell? ⟨b, o + k, none⟩ = some (.string (bstr x)) := by
        have h1 := HLL.out.below hb
        rw [hA] at h1
        exact h1.at1 (by rw [List.getElem?_map, hx]; rfl)
      have hxl := encS_le x hsl
      have hml := inOf_le tag (l.take k) (HS.out.take k)
      rw [← hm] at hml
      have hsz := hb.size
      have HSN := Lib.hid hsn
      have HM := Lib.hid hm
      have HB := Lib.hid hb
      clear hx hsn hm hb hkl
      subst hA
      go_wp2_with fail
      refine (refBytes_any (bstr x) wr (by rw [bstr_size]; omega)).mono ?_
      rintro e w1 ⟨v', rfl, ho1, hb1⟩
      rw [show (bstr x).data.toList = x from rfl] at ho1
      obtain ⟨A1, c1, rfl, _, _, hli⟩ := own_shape ho1
      have hown1 := own_below hown hb1
      have hsrc := src_own (c := c1) rfl hli
      have HB1 := Lib.hid (HB.out.trans (hb1.mono hsz))
      have hsz1 := hb1.size
      clear ho1 hb1 hli hown
      go_wp2_with (at_builtin; go_loud (refine wpList_append_onto_src w1 rfl _ _ 22 22 rfl w.heap.size 5 i0 (.int .u8 0) 1 1 Tryd.underlying22 hi hz0 hz1 hz2 rfl _ _ _ hown1 _ (Wm.encS x).length ((Wm.encS x).map bv) hsrc rfl rfl ?c1 ?c2 ?c3 ?_))
      case c1 => unfold maxLen; omega
      case c2 => omega
      case c3 => omega
      intro v' w2 ho2 hb2
      rw [← List.map_append, ← HSN.out] at ho2
      have HO := Lib.hid ho2
      have HB2 := Lib.hid (HB1.out.trans hb2)
      have HM2 := Lib.hid (show m + (Wm.encS x).length = (inOf tag (l.take (k + 1))).length by rw [HSN.out, List.length_append, HM.out])
      clear ho2 hb2 hown1 hsrc
      go_wp2_with fail
      first
        | exact ⟨⟨k + 1, _, by go_num, by omega, HM2.out, HO.out, HB2.out⟩, by simp [intOf]; omega⟩
        | (go_roundw
           case rel => exact ⟨k + 1, _, by go_num, by omega, HM2.out, HO.out, HB2.out⟩
           case measure => simp [intOf]; omega)
    · have hk2 : k = n := by omega
      subst hk2
      rw [List.take_of_length_le (by rw [HN.out]; exact Nat.le_refl _)] at hown hm
      subst hm
      have HO := Lib.hid hown
      have HB := Lib.hid hb
      clear hown hb
      go_wp2_with fail
      go_ret
      exact ⟨_, rfl, HO.out, HB.out⟩

end Go.Proofs.YtfaadaahpjpfaaaDoor
