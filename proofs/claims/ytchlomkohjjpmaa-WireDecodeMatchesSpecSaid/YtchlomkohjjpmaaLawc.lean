/-
  voxellaw01.WireCanonical: its function literal.
-/
import Derived.Test.YtchlomkohjjpmaaLawb
namespace Go.Proofs.Ytchlomkohjjpmaa
open Go.RowKit

set_option maxRecDepth 1000000 in
set_option maxHeartbeats 400000 in
theorem is_bad (A2 : Option Addr) (m c2 used g : Nat) (er : Int) (w : World) (her : er ≠ 0) :
    Calls Try.prog 37 #[.slice A2 m c2, .int .i64 (used : Int), .int .i64 er, .pointer (some ⟨g, 0, none⟩)] w fun e w' => e = .returned (.bool true) ∧ w = w' := by
  have hb : (er != 0) = true := by simpa using her
  clear her
  go_enter Try.func37, Try.ntmps37
  go_wp2_with fail
  go_ret
  exact ⟨by simp, rfl⟩

set_option maxRecDepth 1000000 in
set_option maxHeartbeats 400000 in
theorem is_good (l x : List UInt8) (A A2 : Option Addr) (n c m c2 g : Nat) (w : World) (hm : x.length = m) (hmn : m ≤ n) (hx : l.take m = x) (hnc : n ≤ c)
    (hl : Lies w A (l.map bv)) (hl2 : Lies w A2 (x.map bv)) (hg : w.cell? ⟨g, 0, none⟩ = some (.slice A n c)) :
    Calls Try.prog 37 #[.slice A2 m c2, .int .i64 (m : Int), .int .i64 0, .pointer (some ⟨g, 0, none⟩)] w fun e w' => e = .returned (.bool true) ∧ w = w' := by
  have hp : Lies w A (x.map bv) := by rw [← hx, List.map_take]; exact hl.take m
  have C := Lib.hid (same_any x A2 A m m c2 c w hm hm hl2 hp)
  have hi : (m : Int) ≤ (n : Int) := by omega
  have h0 : (0 : Int) ≤ (m : Int) := by omega
  clear hp hx hm hl hl2
  go_enter Try.func37, Try.ntmps37
  go_wp2_with fail
  · refine C.out.mono ?_
    rintro e w1 ⟨rfl, rfl⟩
    go_wp2_with fail
    go_ret
    exact ⟨by simp, rfl⟩
  · obtain rfl : m = 0 := by omega
    refine C.out.mono ?_
    rintro e w1 ⟨rfl, rfl⟩
    go_wp2_with fail
    go_ret
    exact ⟨by simp, rfl⟩

/-- what is decoded and encoded again is what was consumed, or there is an error -/
def Again (l x : List UInt8) (used : Nat) (er : Int) : Prop := er ≠ 0 ∨ (er = 0 ∧ used = x.length ∧ x.length ≤ l.length ∧ l.take x.length = x)

theorem again_of {l x t : List UInt8} (h : l = x ++ t) : Again l x x.length 0 := .inr ⟨rfl, rfl, by rw [h, List.length_append]; omega, by rw [h, List.take_left]⟩

theorem is_any (l x : List UInt8) (A A2 : Option Addr) (n c m c2 g used : Nat) (er : Int) (w : World) (hn : l.length = n) (hm : x.length = m) (h : Again l x used er) (hnc : n ≤ c)
    (hl : Lies w A (l.map bv)) (hl2 : Lies w A2 (x.map bv)) (hg : w.cell? ⟨g, 0, none⟩ = some (.slice A n c)) :
    Calls Try.prog 37 #[.slice A2 m c2, .int .i64 (used : Int), .int .i64 er, .pointer (some ⟨g, 0, none⟩)] w fun e w' => e = .returned (.bool true) ∧ w = w' := by
  rcases h with h | ⟨rfl, h1, h2, h3⟩
  · exact is_bad A2 m c2 used g er w h
  · subst hm h1
    exact is_good l x A A2 n c x.length c2 g w rfl (by omega) h3 hnc hl hl2 hg

theorem getL_bad {α : Type} (size : Nat) (g : List UInt8 → α × Nat × Int) (l : List UInt8) (h : (Wm.getL size g l).2.2 ≠ 0) : (Wm.getL size g l).1 = [] := by
  have he : ∀ (n : Nat) (acc : List α) (used : Nat) (r : List UInt8), (Wm.elems g n acc used r).2.2 ≠ 0 → (Wm.elems g n acc used r).1 = [] := by
    intro n
    induction n with
    | zero => intro acc used r h; simp [Wm.elems] at h
    | succ n ih =>
      intro acc used r h
      rw [Wm.elems] at h ⊢
      split
      · rfl
      · rename_i h1
        rw [if_neg h1] at h
        exact ih _ _ _ h
  unfold Wm.getL at h ⊢
  split
  · rfl
  · rename_i h1
    rw [if_neg h1] at h
    exact he _ _ _ _ h

theorem again_int (l : List UInt8) : Again l (Wm.encI (Wm.getI l).1) (Wm.getI l).2.1 (Wm.getI l).2.2 := by
  by_cases h : (Wm.getI l).2.2 = 0
  · obtain ⟨n, t, h1, h2, _⟩ := Wm.getI_ok h
    rw [h2]; exact again_of h1
  · exact .inl h
theorem again_str (l : List UInt8) : Again l (Wm.encS (Wm.getS l).1) (Wm.getS l).2.1 (Wm.getS l).2.2 := by
  by_cases h : (Wm.getS l).2.2 = 0
  · obtain ⟨n, t, h1, h2⟩ := Wm.getS_ok h
    rw [h2]; exact again_of h1
  · exact .inl h
theorem again_ints (l : List UInt8) : Again l (Wm.encIs (Wm.getL 1 Wm.getI l).1) (Wm.getL 1 Wm.getI l).2.1 (Wm.getL 1 Wm.getI l).2.2 ∧ Fits (Wm.getL 1 Wm.getI l).1 ∧ (Wm.getL 1 Wm.getI l).1.length ≤ l.length := by
  by_cases h : (Wm.getL 1 Wm.getI l).2.2 = 0
  · obtain ⟨xs, t, h1, h2, h3⟩ := Wm.getIs_ok h
    rw [h2]
    refine ⟨again_of h1, h3, ?_⟩
    have h4 := Wm.flat_ge (f := Wm.encI) (size := 1) xs (fun x _ => Wm.enc_pos _)
    have h5 := congrArg List.length h1
    unfold Wm.encIs at h5
    rw [List.length_append, List.length_append] at h5
    show xs.length ≤ _
    omega
  · exact ⟨.inl h, by rw [getL_bad 1 Wm.getI l h]; intro n hn; simp at hn, by rw [getL_bad 1 Wm.getI l h]; simp⟩
theorem again_strs (l : List UInt8) : Again l (Wm.encSs (Wm.getL 1 Wm.getS l).1) (Wm.getL 1 Wm.getS l).2.1 (Wm.getL 1 Wm.getS l).2.2 ∧ (Wm.encSs (Wm.getL 1 Wm.getS l).1).length ≤ l.length + 10 ∧ (Wm.getL 1 Wm.getS l).1.length ≤ l.length := by
  by_cases h : (Wm.getL 1 Wm.getS l).2.2 = 0
  · obtain ⟨xs, t, h1, h2⟩ := Wm.getSs_ok h
    rw [h2]
    have h6 := congrArg List.length h1
    rw [List.length_append] at h6
    refine ⟨again_of h1, by show (Wm.encSs xs).length ≤ _; omega, ?_⟩
    have h4 := Wm.flat_ge (f := Wm.encS) (size := 1) xs (fun x _ => Wm.encS_pos _)
    have h5 := congrArg List.length h1
    unfold Wm.encSs at h5
    rw [List.length_append, List.length_append] at h5
    show xs.length ≤ _
    omega
  · refine ⟨.inl h, ?_, by rw [getL_bad 1 Wm.getS l h]; simp⟩
    rw [getL_bad 1 Wm.getS l h]
    have : (Wm.encSs []).length ≤ 10 := by unfold Wm.encSs; rw [List.length_append]; have := Wm.encI_len ((([] : List (List UInt8)).length : Nat) : Int) (by simp) (by simp); simp at this ⊢; omega
    omega
theorem again_digs (l : List UInt8) : Again l (Wm.encDs (Wm.getL 16 Wm.getD l).1) (Wm.getL 16 Wm.getD l).2.1 (Wm.getL 16 Wm.getD l).2.2 ∧ Is16 (Wm.getL 16 Wm.getD l).1 ∧ (Wm.getL 16 Wm.getD l).1.length ≤ l.length := by
  by_cases h : (Wm.getL 16 Wm.getD l).2.2 = 0
  · obtain ⟨xs, t, h1, h2, h3⟩ := Wm.getDs_ok h
    rw [h2]
    refine ⟨again_of h1, h3, ?_⟩
    have h4 := flatten_len h3
    have h5 := congrArg List.length h1
    unfold Wm.encDs at h5
    rw [List.length_append, List.length_append, h4] at h5
    show xs.length ≤ _
    omega
  · exact ⟨.inl h, by rw [getL_bad 16 Wm.getD l h]; intro n hn; simp at hn, by rw [getL_bad 16 Wm.getD l h]; simp⟩

end Go.Proofs.Ytchlomkohjjpmaa
