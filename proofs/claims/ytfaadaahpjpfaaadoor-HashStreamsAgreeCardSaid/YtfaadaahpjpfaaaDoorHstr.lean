/-
  Streams, their cells under one name; the reference's Joined.
-/
import Derived.Test.YtfaadaahpjpfaaaDoorHsm
import Derived.Test.YtfaadaahpjpfaaaDoorHrh
import Derived.Test.YtfaadaahpjpfaaaDoorHlawb
namespace Go.Proofs.YtfaadaahpjpfaaaDoor
open Go.RowKit

/-- the cells of a stream with the message M -/
def StrC (M : List UInt8) (C : List Value) : Prop := ∃ v blk n, C = strC v blk n ∧ n = M.length ∧ Sha.Str Sha.consts M v blk
theorem StrC.len {M : List UInt8} {C : List Value} (h : StrC M C) : C.length = 73 := by
  obtain ⟨v, blk, n, rfl, _, hs⟩ := h; exact strC_len _ _ _ hs.len
theorem StrC.one {M : List UInt8} {C : List Value} (h : StrC M C) : ∀ x ∈ C, x.oneCell' = true := by
  obtain ⟨v, blk, n, rfl, _, hs⟩ := h; exact strC_one _ _ _
/-- a stream comes back -/
def StrCP (M : List UInt8) (w : World) (e : Ending) (w' : World) : Prop := ∃ C : List Value, e = .returned (.agg C.toArray) ∧ StrC M C ∧ Below w.heap.size w w'
theorem hsBegin_c (w : World) (ht : Tab w) : Calls Tryd.prog 14 #[] w (StrCP [] w) :=
  (hsBegin_p w ht).mono fun _ _ ⟨v, blk, n, he, hs, hb⟩ => ⟨_, he, ⟨v, blk, n, rfl, hs⟩, hb⟩
theorem hsAdd_c (M t : List UInt8) (C : List Value) (w : World) (hs : StrC M C) (hm : M.length + t.length ≤ 1099511627776) (ht : Tab w) :
    Calls Tryd.prog 15 #[.agg C.toArray, .string (bstr t)] w (StrCP (M ++ t) w) := by
  obtain ⟨v, blk, n, rfl, h⟩ := hs
  exact (hsAdd_p M t v blk n w h hm ht).mono fun _ _ ⟨v, blk, n, he, hs, hb⟩ => ⟨_, he, ⟨v, blk, n, rfl, hs⟩, hb⟩
theorem hsSSum_c (M : List UInt8) (C : List Value) (w : World) (hs : StrC M C) (hm : M.length ≤ 1099511627776) (ht : Tab w) :
    Calls Tryd.prog 17 #[.agg C.toArray] w fun e w' => e = .returned (.agg ((Sha.sum Sha.consts M).map bv).toArray) ∧ Below w.heap.size w w' := by
  obtain ⟨v, blk, n, rfl, h⟩ := hs
  exact hsSSum_p M v blk n w h hm ht

theorem Few.flat {l : List (List UInt8)} (h : Few l) (k : Nat) : (l.take k).flatten.length ≤ 4800 := by
  have h1 : ∀ m : List (List UInt8), (∀ s ∈ m, s.length ≤ 400) → m.flatten.length ≤ 400 * m.length := by
    intro m
    induction m with
    | nil => intro _; simp
    | cons s r ih =>
      intro hm
      rw [List.flatten_cons, List.length_append, List.length_cons]
      have h2 := hm s (by simp)
      have h3 := ih (fun x hx => hm x (by simp [hx]))
      omega
  have h2 := h1 (l.take k) (fun s hs => h.2 s (List.mem_of_mem_take hs))
  have h3 := h.1
  rw [List.length_take] at h2
  omega
theorem flat_step {l : List (List UInt8)} {k : Nat} (h : k < l.length) : (l.take (k + 1)).flatten = (l.take k).flatten ++ l[k] := by
  rw [List.take_succ_eq_append_getElem h, List.flatten_append]; simp

set_option maxRecDepth 1000000 in
set_option maxHeartbeats 400000 in
theorem hrJoined_any (l : List (List UInt8)) (A : Option Addr) (n c : Nat) (w : World) (hn : l.length = n) (hl : Lies w A (l.map sv)) (hf : Few l) :
    Calls Tryd.prog 16 #[.slice A n c] w fun e w' => e = .returned (.string (bstr l.flatten)) ∧ w = w' := by
  have HL := Lib.hid hl
  have HN := Lib.hid hn
  have HF := Lib.hid hf
  have hnb : n ≤ 12 := by have := hf.1; omega
  clear hl hn hf
  go_enter Tryd.func16, Tryd.ntmps16
  go_wp2_with fail
  go_loop [3, 4] (fun s i => ∃ k : Nat, i = .int .i64 (k : Int) ∧ k ≤ n ∧ s = .string (bstr (l.take k).flatten)) (fun _ i => n - (intOf i).toNat)
  case atStart => exact ⟨0, rfl, by omega, rfl⟩
  case round =>
    obtain ⟨k, rfl, hk, rfl⟩ := hrel
    by_cases hlt : k < n
    · have hkl : k < l.length := by rw [HN.out]; exact hlt
      obtain ⟨b, o, hA, _⟩ := HL.out.at_ (by simpa using List.ne_nil_of_length_pos (show 0 < l.length by omega))
      subst hA
      have hx := List.getElem?_eq_getElem hkl
      have hfs := flat_step hkl
      have hXl := HF.out.flat k
      have hxl := HF.out.2 l[k] (List.getElem_mem hkl)
      generalize l[k] = x at hx hfs hxl
      have hc : w.cell? ⟨b, o + k, none⟩ = some (.string (bstr x)) := HL.out.at1 (by rw [List.getElem?_map, hx]; rfl)
      have hap := bstr_app (l.take k).flatten x
      rw [← hfs] at hap
      have HAP := Lib.hid hap
      generalize (l.take k).flatten = X at *
      have hs1 : (bstr X).size = X.length := bstr_size X
      have hs2 : (bstr x).size = x.length := bstr_size x
      clear hx hkl hfs hap
      go_wp2_with fail
      first
        | exact ⟨⟨k + 1, by go_num, by omega, by rw [HAP.out]⟩, by simp [intOf]; omega⟩
        | (go_round
           case rel => exact ⟨k + 1, by go_num, by omega, by rw [HAP.out]⟩
           case measure => simp [intOf]; omega)
    · have hkn : k = n := by omega
      subst hkn
      rw [List.take_of_length_le (by rw [HN.out]; exact Nat.le_refl _)]
      go_wp2
      go_ret
      exact ⟨rfl, rfl⟩

end Go.Proofs.YtfaadaahpjpfaaaDoor
