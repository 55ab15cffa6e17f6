/-
  Contracts of package hash: a key is masked.
-/
import Derived.Test.YtfaadaahpjpfaaaDoorHsk
namespace Go.Proofs.YtfaadaahpjpfaaaDoor
open Go.RowKit
open Sha (wv)

theorem u8_xor (a b : UInt8) : bits .xor .u8 (a.toNat : Int) (b.toNat : Int) = ((a ^^^ b).toNat : Int) := by
  show IntKind.u8.wrap ((BitVec.ofInt 8 (a.toNat : Int) ^^^ BitVec.ofInt 8 (b.toNat : Int)).toNat : Int) = _
  have e : ∀ x : UInt8, BitVec.ofInt 8 (x.toNat : Int) = x.toBitVec := by
    intro x
    apply BitVec.eq_of_toNat_eq
    rw [BitVec.toNat_ofInt]
    have := x.toNat_lt
    show ((x.toNat : Int) % 256).toNat = x.toNat
    omega
  rw [e, e]
  have h := (a ^^^ b).toNat_lt
  have h2 : (a.toBitVec ^^^ b.toBitVec).toNat = (a ^^^ b).toNat := rfl
  rw [h2]
  generalize (a ^^^ b).toNat = z at h ⊢
  simp [IntKind.wrap, IntKind.signed, IntKind.bits]
  omega

/-- a key as a block -/
def ext (k : List UInt8) : List UInt8 := (List.range 64).map (fun i => k.getD i 0)
theorem ext_len (k : List UInt8) : (ext k).length = 64 := by simp [ext]
/-- the first i bytes are masked -/
def half (k : List UInt8) (p : UInt8) (i : Nat) : List UInt8 := ((ext k).map (· ^^^ p)).take i ++ (ext k).drop i
theorem half_len (k : List UInt8) (p : UInt8) (i : Nat) (h : i ≤ 64) : (half k p i).length = 64 := by
  unfold half; rw [List.length_append, List.length_take, List.length_drop, List.length_map, ext_len]; omega
theorem half_at (k : List UInt8) (p : UInt8) (i : Nat) (h : i < 64) : (half k p i)[i]? = some ((ext k).getD i 0) := by
  have hl := ext_len k
  unfold half
  rw [List.getElem?_append_right (by rw [List.length_take, List.length_map, hl]; omega), List.length_take, List.length_map, hl, List.getElem?_drop, Nat.min_eq_left (by omega), Nat.sub_self, Nat.add_zero, List.getD_eq_getElem?_getD, List.getElem?_eq_getElem (by omega)]
  rfl
theorem half_step (k : List UInt8) (p : UInt8) (i : Nat) (h : i < 64) : (half k p i).set i ((ext k).getD i 0 ^^^ p) = half k p (i + 1) := by
  have hl := ext_len k
  have h1 : (((ext k).map (· ^^^ p)).take i).length = i := by rw [List.length_take, List.length_map, hl]; omega
  unfold half
  rw [List.set_append_right _ _ (by omega), h1, Nat.sub_self, List.drop_eq_getElem_cons (by omega : i < (ext k).length), List.set_cons_zero, List.take_succ_eq_append_getElem (by rw [List.length_map, hl]; omega), List.append_assoc]
  congr 1
  rw [List.getElem_map, List.getD_eq_getElem?_getD, List.getElem?_eq_getElem (by omega)]
  rfl
theorem half_end (k : List UInt8) (p : UInt8) : half k p 64 = (ext k).map (· ^^^ p) := by
  have hl := ext_len k
  unfold half
  rw [List.take_of_length_le (by rw [List.length_map, hl]; omega), List.drop_of_length_le (by omega), List.append_nil]
theorem ext_short (k : List UInt8) (h : k.length ≤ 64) : k ++ List.replicate (64 - k.length) 0 = ext k := by
  apply List.ext_getElem?
  intro i
  unfold ext
  rw [List.getElem?_map, List.getElem?_append]
  by_cases hi : i < k.length
  · rw [if_pos hi, List.getElem?_range (by omega), List.getElem?_eq_getElem hi]
    simp [List.getD_eq_getElem?_getD, List.getElem?_eq_getElem hi]
  · rw [if_neg hi, List.getElem?_replicate]
    by_cases h2 : i < 64
    · rw [if_pos (by omega), List.getElem?_range h2]
      simp [List.getD_eq_getElem?_getD, List.getElem?_eq_none (show k.length ≤ i by omega)]
    · rw [if_neg (by omega), List.getElem?_eq_none (by simp; omega)]; rfl
theorem key_ext (k : List UInt8) (p : UInt8) (h : ¬ 64 < k.length) : Sha.key Sha.consts k p = (ext k).map (· ^^^ p) := by
  unfold Sha.key ext
  simp only [if_neg h, List.map_map]
  rfl

theorem Row.lies {g : Nat} {cs : List Value} {w : World} (h : Row g cs w) : Lies w (some ⟨g, 0, none⟩) cs := .inr ⟨_, _, rfl, fun j u hu => h.range j u hu⟩
theorem half_zero (k : List UInt8) (p : UInt8) : half k p 0 = ext k := by unfold half; simp

set_option maxRecDepth 1000000 in
set_option maxHeartbeats 1000000 in
theorem hsMasked_any (key : ByteArray) (p : UInt8) (w : World) (hk : key.size ≤ 64) :
    Calls Tryd.prog 33 #[.string key, .int .u8 (p.toNat : Int)] w fun e w' => e = .returned (.string (bstr (Sha.key Sha.consts key.data.toList p))) ∧ Below w.heap.size w w' := by
  have hkl : key.data.toList.length ≤ 64 := by rw [ba_len]; exact hk
  have E := Lib.hid (key_ext key.data.toList p (by omega))
  go_enter Tryd.func33, Tryd.ntmps33
  go_upto_region 2 with fail
  obtain ⟨u, hu⟩ : ∃ W, W = w.alloc (.cells #[Value.int .u8 0, Value.int .u8 0, Value.int .u8 0, Value.int .u8 0, Value.int .u8 0, Value.int .u8 0, Value.int .u8 0, Value.int .u8 0, Value.int .u8 0, Value.int .u8 0, Value.int .u8 0, Value.int .u8 0, Value.int .u8 0, Value.int .u8 0, Value.int .u8 0, Value.int .u8 0, Value.int .u8 0, Value.int .u8 0, Value.int .u8 0, Value.int .u8 0, Value.int .u8 0, Value.int .u8 0, Value.int .u8 0, Value.int .u8 0, Value.int .u8 0, Value.int .u8 0, Value.int .u8 0, Value.int .u8 0, Value.int .u8 0, Value.int .u8 0, Value.int .u8 0, Value.int .u8 0, Value.int .u8 0, Value.int .u8 0, Value.int .u8 0, Value.int .u8 0, Value.int .u8 0, Value.int .u8 0, Value.int .u8 0, Value.int .u8 0, Value.int .u8 0, Value.int .u8 0, Value.int .u8 0, Value.int .u8 0, Value.int .u8 0, Value.int .u8 0, Value.int .u8 0, Value.int .u8 0, Value.int .u8 0, Value.int .u8 0, Value.int .u8 0, Value.int .u8 0, Value.int .u8 0, Value.int .u8 0, Value.int .u8 0, Value.int .u8 0, Value.int .u8 0, Value.int .u8 0, Value.int .u8 0, Value.int .u8 0, Value.int .u8 0, Value.int .u8 0, Value.int .u8 0, Value.int .u8 0] 31) := ⟨_, rfl⟩
  have hr0 : Row w.heap.size ((List.replicate 64 (0 : UInt8)).map bv) u := by rw [hu]; exact Row.new w #[Value.int .u8 0, Value.int .u8 0, Value.int .u8 0, Value.int .u8 0, Value.int .u8 0, Value.int .u8 0, Value.int .u8 0, Value.int .u8 0, Value.int .u8 0, Value.int .u8 0, Value.int .u8 0, Value.int .u8 0, Value.int .u8 0, Value.int .u8 0, Value.int .u8 0, Value.int .u8 0, Value.int .u8 0, Value.int .u8 0, Value.int .u8 0, Value.int .u8 0, Value.int .u8 0, Value.int .u8 0, Value.int .u8 0, Value.int .u8 0, Value.int .u8 0, Value.int .u8 0, Value.int .u8 0, Value.int .u8 0, Value.int .u8 0, Value.int .u8 0, Value.int .u8 0, Value.int .u8 0, Value.int .u8 0, Value.int .u8 0, Value.int .u8 0, Value.int .u8 0, Value.int .u8 0, Value.int .u8 0, Value.int .u8 0, Value.int .u8 0, Value.int .u8 0, Value.int .u8 0, Value.int .u8 0, Value.int .u8 0, Value.int .u8 0, Value.int .u8 0, Value.int .u8 0, Value.int .u8 0, Value.int .u8 0, Value.int .u8 0, Value.int .u8 0, Value.int .u8 0, Value.int .u8 0, Value.int .u8 0, Value.int .u8 0, Value.int .u8 0, Value.int .u8 0, Value.int .u8 0, Value.int .u8 0, Value.int .u8 0, Value.int .u8 0, Value.int .u8 0, Value.int .u8 0, Value.int .u8 0] 31
  have hb0 : Below w.heap.size w u := by rw [hu]; exact (Below.refl _ _).alloc (Nat.le_refl _) _
  rw [← hu]
  clear hu
  have hcp := fun ty : TypeId => run_copy_str (P := Tryd.prog) u 22 9 ty 5 Tryd.underlying22 (by kernel_rfl) w.heap.size 0 64 64 key key.size (by omega) (hr0.there 0 _ (by simp; omega))
  have hr1 := hr0.setCells 0 ((key.data.toList.take key.size).map bv) (by rw [List.length_map, List.length_map, List.length_take, ba_len, List.length_replicate]; omega)
  have e1 : ((List.replicate 64 (0 : UInt8)).map bv).take 0 ++ (key.data.toList.take key.size).map bv ++ ((List.replicate 64 (0 : UInt8)).map bv).drop (0 + ((key.data.toList.take key.size).map bv).length) = (ext key.data.toList).map bv := by
    rw [List.take_zero, List.nil_append, List.take_of_length_le (by rw [ba_len]; exact Nat.le_refl _), ← ext_short _ hkl, List.map_append, List.map_replicate, List.drop_replicate, List.length_map, Nat.zero_add, List.map_replicate]
  rw [e1] at hr1
  have hb1 := below_setCells (b := w.heap.size) (Nat.le_refl _) ((key.data.toList.take key.size).map bv) 0 w u hb0
  obtain ⟨u1, hu1⟩ : ∃ W, W = u.setCells w.heap.size 0 ((key.data.toList.take key.size).map bv) := ⟨_, rfl⟩
  rw [← hu1] at hcp hr1 hb1
  clear hr0 hb0 hu1 e1
  have HR1 := Lib.hid hr1
  have HB1 := Lib.hid hb1
  clear hr1 hb1
  have hsl := fun W : World => run_slice_arr_all (P := Tryd.prog) W 31 5 64 Tryd.underlying31 (by kernel_rfl) w.heap.size 0 (by omega)
  go_wp2_with fail
  go_loopw [10] (fun i wr => ∃ k : Nat, i = .int .i64 (k : Int) ∧ k ≤ 64 ∧ Row w.heap.size ((half key.data.toList p k).map bv) wr ∧ Below w.heap.size w wr) (fun i _ => 64 - (intOf i).toNat)
  case atStart => exact ⟨0, rfl, by omega, by rw [half_zero]; exact HR1.out, HB1.out⟩
  case round =>
    obtain ⟨k, rfl, hk64, hr, hb⟩ := hrel
    by_cases hlt : k < 64
    · obtain ⟨c1, f1⟩ := hr k (bv ((ext key.data.toList).getD k 0)) (by rw [List.getElem?_map, half_at _ _ _ hlt]; rfl)
      have EX := Lib.hid (u8_xor ((ext key.data.toList).getD k 0) p)
      have hr2 := hr.set k (bv ((ext key.data.toList).getD k 0 ^^^ p)) (by rw [List.length_map, half_len _ _ _ (by omega)]; exact hlt)
      have e2 : ((half key.data.toList p k).map bv).set k (bv ((ext key.data.toList).getD k 0 ^^^ p)) = (half key.data.toList p (k + 1)).map bv := by
        rw [← half_step _ _ _ hlt, List.map_set]
      rw [e2] at hr2
      have HR2 := Lib.hid hr2
      have HB2 := Lib.hid (hb.setCell (p := ⟨w.heap.size, k, none⟩) (Nat.le_refl _) (bv ((ext key.data.toList).getD k 0 ^^^ p)))
      clear hr hr2 hb e2 hcp
      generalize (ext key.data.toList).getD k 0 = x at c1 EX HR2 HB2
      unfold bv at c1 HR2 HB2
      go_wp2_with fail
      go_roundw
      case rel => exact ⟨k + 1, by go_num, by omega, by unfold bv; rw [EX.out]; exact HR2.out, by rw [EX.out]; exact HB2.out⟩
      case measure => simp [intOf]; omega
    · have hk : k = 64 := by omega
      subst hk
      rw [half_end] at hr
      have LL := Lib.hid hr.lies
      have HB := Lib.hid hb
      have hml : ((ext key.data.toList).map (· ^^^ p)).length = 64 := by rw [List.length_map, ext_len]
      have ML := Lib.hid hml
      clear hr hb hml hcp
      go_wp2_with (with_reducible refine wpList_convert_str wr rfl (.tmp 20) 22 9 5 rfl Tryd.underlying22 Tryd.underlying5 Tryd.underlying9 (some ⟨w.heap.size, 0, none⟩) 64 64 rfl ((ext key.data.toList).map (· ^^^ p)) ML.out (fun h => by cases h) LL.out ?_)
      go_ret
      exact ⟨by rw [E.out]; rfl, HB.out⟩

end Go.Proofs.YtfaadaahpjpfaaaDoor
