/-
  Contracts: lists of digests are encoded.
-/
import Derived.Test.YtchlomkohjjpmaaWiree
namespace Go.Proofs.Ytchlomkohjjpmaa
open Go.RowKit

/-- a digest as a value -/
def dv (d : List UInt8) : Value := .agg (d.map bv).toArray
/-- the cells of a list of digests -/
def dcells (l : List (List UInt8)) : List Value := l.flatten.map bv
def Is16 (l : List (List UInt8)) : Prop := ∀ d ∈ l, d.length = 16

theorem Try.infoDg : (Try.prog.info? 57).map (·.size) = some 16 := by kernel_rfl

theorem flatten_len {l : List (List UInt8)} (h : Is16 l) : l.flatten.length = l.length * 16 := by
  induction l with
  | nil => rfl
  | cons d r ih =>
    rw [List.flatten_cons, List.length_append, h d (by simp), ih (fun x hx => h x (by simp [hx])), List.length_cons]; omega
theorem flatten_part {l : List (List UInt8)} (h : Is16 l) {k : Nat} {d : List UInt8} (hd : l[k]? = some d) : (l.flatten.drop (k * 16)).take 16 = d := by
  induction l generalizing k with
  | nil => simp at hd
  | cons x r ih =>
    have hx : x.length = 16 := h x (by simp)
    cases k with
    | zero =>
      simp at hd; subst hd
      rw [List.flatten_cons, Nat.zero_mul, List.drop_zero, ← hx]; exact List.take_left
    | succ k =>
      rw [List.flatten_cons, show (k + 1) * 16 = x.length + k * 16 from by omega, List.drop_length_add_append]
      exact ih (fun y hy => h y (by simp [hy])) (by simpa using hd)

set_option maxRecDepth 1000000 in
set_option maxHeartbeats 400000 in
theorem putDigest_any (d : List UInt8) (B k : Nat) (v : Value) (xs : List UInt8) (w : World) (hd : d.length = 16)
    (hown : w.ownsRow B 5 1 v k (xs.map bv)) (hB : B ≤ w.heap.size) (hk : k ≤ 70368744177664) :
    Calls Try.prog 43 #[v, dv d] w fun e w' => ∃ v', e = .returned v' ∧ w'.ownsRow B 5 1 v' (k + 16) ((xs ++ d).map bv) ∧ Below B w w' := by
  obtain ⟨i0, hi, hz0, hz1, hz2⟩ := info_parts Try.infoU8
  have HD := Lib.hid hd
  clear hd
  unfold dv
  go_enter Try.func43, Try.ntmps43
  go_wp2_with (at_builtin; go_loud (refine wpList_append_onto_src (w.alloc (.cells (d.map bv).toArray 57)) rfl _ _ 28 28 rfl B 5 i0 (.int .u8 0) 1 1 Try.underlying28 hi hz0 hz1 hz2 rfl _ _ _ (hown.alloc _) (.slice (some ⟨w.heap.size, 0, none⟩) 16 16) 16 (d.map bv) (Src.of_lies _ Try.underlying28 16 (by rw [List.length_map, HD.out]) (fun h => by cases h) (Lies.new w _ _) (bvs_one d)) rfl rfl ?c1 ?c2 ?c3 ?_))
  case c1 => unfold maxLen; omega
  case c2 => omega
  case c3 => simp; omega
  intro v' w1 ho hb
  go_wp2
  go_ret
  exact ⟨v', rfl, by simpa using ho, ((Below.refl B w).alloc hB _).trans hb⟩

set_option maxRecDepth 1000000 in
set_option maxHeartbeats 400000 in
theorem listDig_any (l : List (List UInt8)) (A : Option Addr) (n c : Nat) (w : World) (hn : l.length = n) (hf : Is16 l) (h : Lies w A (dcells l)) (hn2 : n ≤ 4398046511104) :
    Calls Try.prog 42 #[.slice A n c, .func (.func 43) #[] #[]] w fun e w' => ∃ v', e = .returned v' ∧ w'.ownsRow w.heap.size 5 1 v' (Wm.encDs l).length ((Wm.encDs l).map bv) ∧ Below w.heap.size w w' := by
  have HL := Lib.hid h
  have HN := Lib.hid hn
  have HF := Lib.hid hf
  clear h hn hf
  go_enter Try.func42, Try.ntmps42
  go_wp2_with fail
  refine (putInt_any (n : Int) w.heap.size 0 (.slice none 0 0) [] w (by omega) (by omega) (World.ownsRow_nil _ _ _ _) (Nat.le_refl _) (by omega)).mono ?_
  rintro e w1 ⟨v1, rfl, ho, hb⟩
  go_wp2_with fail
  go_loopw [5, 13] (fun b i wr => ∃ k : Nat, i = .int .i64 (k : Int) ∧ k ≤ n ∧ wr.ownsRow w.heap.size 5 1 b (Wm.encI (n : Int) ++ (l.take k).flatten).length ((Wm.encI (n : Int) ++ (l.take k).flatten).map bv) ∧ Below w.heap.size w wr)
    (fun _ i _ => n - (intOf i).toNat)
  case atStart => exact ⟨0, rfl, by omega, by simpa using ho, hb⟩
  case round =>
    obtain ⟨k, rfl, hk, hown, hbel⟩ := hrel
    have hsz := hbel.size
    by_cases hlt : k < n
    · have hkl : k < l.length := by rw [HN.out]; exact hlt
      have hfl := flatten_len HF.out
      obtain ⟨b, o, hA, _⟩ := HL.out.at_ (by
        have : 0 < (dcells l).length := by unfold dcells; rw [List.length_map, hfl]; omega
        exact List.ne_nil_of_length_pos this)
      subst hA
      have hx := List.getElem?_eq_getElem hkl
      generalize l[k] = x at hx
      have hxf := HF.out x (List.mem_of_getElem? hx)
      have hc : wr.rangeAt b (o + k * 16) (x.map bv) := by
        have h1 := (((HL.out.below hbel).drop (k * 16)).take 16).range
        unfold dcells at h1
        rw [← List.map_drop, ← List.map_take, flatten_part HF.out hx] at h1
        exact h1
      have hfs : (l.take (k + 1)).flatten = (l.take k).flatten ++ x := by
        rw [List.take_succ_eq_append_getElem hkl, List.flatten_append]
        rw [List.getElem?_eq_getElem hkl] at hx; injection hx with hx; simp [hx]
      have htl : (l.take k).flatten.length = k * 16 := by
        rw [flatten_len (fun d hd => HF.out d (List.mem_of_mem_take hd)), List.length_take]; omega
      have hEn := Wm.encI_len (n : Int) (by omega) (by omega)
      have hkk : (Wm.encI (n : Int) ++ (l.take k).flatten).length ≤ 70368744177664 := by rw [List.length_append]; omega
      have HS := Lib.hid hfs
      have HK := Lib.hid hkk
      have HC := Lib.hid hc
      have HX := Lib.hid hxf
      clear hx hkl hfs htl hEn hkk hc hxf hfl
      have Hi := Lib.hid (show (Try.prog.info? 57).map (·.size) = some (x.map bv).length by rw [Try.infoDg, List.length_map, HX.out])
      have Hi2 := Lib.hid (show (Try.prog.info? 57).map (·.size) = some (x.map bv).toArray.size by rw [Try.infoDg, List.size_toArray, List.length_map, HX.out])
      go_wp2_with (first
        | (refine wpList_load_mid rfl 57 _ rfl b (o + k * 16) rfl (x.map bv) _ HC.out Try.underlying57 rfl Hi.out ?_)
        | (refine wpList_store_new wr rfl 57 _ _ rfl _ (x.map bv).toArray rfl rfl Hi2.out ?c1 ?c2 ?_)
        | (refine wpList_load_new wr rfl 57 _ rfl (x.map bv).toArray rfl _ _ Try.underlying57 Hi2.out ?_))
      case c1 =>
        have h16 : (x.map bv).toArray.size = 16 := by rw [List.size_toArray, List.length_map, HX.out]
        rw [h16]; rfl
      case c2 => exact all_oneCell_toArray (bvs_one x)
      refine (putDigest_any x w.heap.size _ _ (Wm.encI (n : Int) ++ (l.take k).flatten) _ HX.out (hown.alloc _) (Nat.le_trans hsz (by simp)) HK.out).mono ?_
      rintro e w2 ⟨v2, rfl, ho2, hb2⟩
      go_wp2_with fail
      go_roundw
      case rel =>
        refine ⟨k + 1, by go_num, by omega, ?_, (hbel.alloc hsz _).trans hb2⟩
        rw [HS.out, ← List.append_assoc]
        have e1 : (Wm.encI (n : Int) ++ (l.take k).flatten ++ x).length = (Wm.encI (n : Int) ++ (l.take k).flatten).length + 16 := by rw [List.length_append (bs := x), HX.out]
        rw [e1]; exact ho2
      case measure => simp [intOf]; omega
    · have hkn : k = n := by omega
      subst hkn
      go_wp2
      go_ret
      refine ⟨_, rfl, ?_, hbel⟩
      unfold Wm.encDs
      rw [HN.out]
      rw [List.take_of_length_le (by rw [HN.out]; exact Nat.le_refl _)] at hown
      exact hown

theorem digests_any (l : List (List UInt8)) (A : Option Addr) (n c : Nat) (w : World) (hn : l.length = n) (hf : Is16 l) (h : Lies w A (dcells l)) (hn2 : n ≤ 4398046511104) :
    Calls Try.prog 22 #[.slice A n c] w fun e w' => ∃ v', e = .returned v' ∧ w'.ownsRow w.heap.size 5 1 v' (Wm.encDs l).length ((Wm.encDs l).map bv) ∧ Below w.heap.size w w' := by
  have C := Lib.hid (listDig_any l A n c w hn hf h hn2)
  clear hn hf h
  go_enter Try.func22, Try.ntmps22
  go_wp2_with fail
  refine C.out.mono ?_
  rintro e w1 ⟨v', rfl, ho, hb⟩
  clear C
  go_wp2
  go_ret
  exact ⟨v', rfl, ho, hb⟩

end Go.Proofs.Ytchlomkohjjpmaa
