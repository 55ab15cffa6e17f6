/-
  Contracts: byte strings.
-/
import Derived.Test.YtchlomkohjjpmaaWirec
import Derived.Test.YtchlomkohjjpmaaBaseb
namespace Go.Proofs.Ytchlomkohjjpmaa
open Go.RowKit

/-- putBytes appends the length and the bytes -/
theorem putBytes_any (s : ByteArray) (B k : Nat) (v : Value) (xs : List UInt8) (w : World) (hs : s.size ≤ 70368744177664)
    (hown : w.ownsRow B 5 1 v k (xs.map bv)) (hB : B ≤ w.heap.size) (hk : k ≤ 70368744177000) :
    Calls Try.prog 39 #[v, .string s] w fun e w' => ∃ v', e = .returned v' ∧ w'.ownsRow B 5 1 v' (k + (Wm.encS s.data.toList).length) ((xs ++ Wm.encS s.data.toList).map bv) ∧ Below B w w' := by
  obtain ⟨i0, hi, hz0, hz1, hz2⟩ := info_parts Try.infoU8
  have hz := Wm.enc_le10 (Wm.zig_lt (s.size : Int) (by omega) (by omega))
  go_enter Try.func39, Try.ntmps39
  go_wp2_with fail
  refine (putInt_any (s.size : Int) B k v xs w (by omega) (by omega) hown hB (by omega)).mono ?_
  rintro e w1 ⟨v1, rfl, ho, hb⟩
  have hsz := hb.size
  change (Wm.encI (s.size : Int)).length ≤ 10 at hz
  go_wp2_with (at_builtin; go_loud (refine wpList_append_onto_src w1 rfl _ _ 28 9 rfl B 5 i0 (.int .u8 0) 1 1 Try.underlying28 hi hz0 hz1 hz2 rfl _ _ _ ho (.string s) s.size (byteCells s) (Src.ofString w1 Try.underlying9 s) rfl rfl ?c1 ?c2 ?c3 ?_))
  case c1 => unfold maxLen; omega
  case c2 => omega
  case c3 => omega
  intro v' w2 ho2 hb2
  go_wp2
  go_ret
  have hl := ba_len s
  refine ⟨v', rfl, ?_, hb.trans hb2⟩
  rw [byteCells_eq] at ho2
  unfold Wm.encS
  rw [hl]
  simpa [Nat.add_assoc, hl] using ho2

theorem bytes_any (s : ByteArray) (w : World) (hs : s.size ≤ 70368744177664) :
    Calls Try.prog 16 #[.string s] w fun e w' => ∃ v', e = .returned v' ∧ w'.ownsRow w.heap.size 5 1 v' (Wm.encS s.data.toList).length ((Wm.encS s.data.toList).map bv) ∧ Below w.heap.size w w' := by
  go_enter Try.func16, Try.ntmps16
  go_wp2_with fail
  refine (putBytes_any s w.heap.size 0 (.slice none 0 0) [] w hs (World.ownsRow_nil _ _ _ _) (Nat.le_refl _) (by omega)).mono ?_
  rintro e w1 ⟨v', rfl, ho, hb⟩
  go_wp2
  go_ret
  exact ⟨v', rfl, by simpa using ho, hb⟩

/-- the post of GetBytes -/
def StrPost (R : List UInt8 × Nat × Int) (w : World) (e : Ending) (w' : World) : Prop :=
  e = .returned (.tuple #[.string (bstr R.1), .int .i64 (R.2.1 : Int), .int .i64 R.2.2]) ∧ w = w'

set_option maxRecDepth 1000000 in
set_option maxHeartbeats 400000 in
theorem getBytes_any (l : List UInt8) (A : Option Addr) (n c : Nat) (w : World) (hn : l.length = n) (hlen : n ≤ 140737488355328) (h : Lies w A (l.map bv)) (hnc : n ≤ c) :
    Calls Try.prog 26 #[.slice A n c] w (StrPost (Wm.getS l) w) := by
  have C := Lib.hid (getLength_any l A n c 1 w hn hlen h (by omega) (by omega))
  have hlm := Wm.getLen_bd (size := 1) (l := l)
  have HG : Hid (Wm.getS l = _) := Lib.hid (by unfold Wm.getS; rfl)
  generalize Wm.getS l = T at HG ⊢
  have e1 : (1 : Int).toNat = 1 := rfl
  rw [e1] at C
  clear e1
  generalize Wm.getLen 1 l = R at *
  obtain ⟨x, u, er⟩ := R
  simp only at hlm HG
  rw [hn] at hlm
  obtain ⟨hx0, hux⟩ := hlm
  have HL := Lib.hid h
  have HN := Lib.hid hn
  clear h hn
  go_enter Try.func26, Try.ntmps26
  go_wp2_with fail
  refine C.out.mono ?_
  rintro e w1 ⟨rfl, rfl⟩
  clear C
  go_wp2_with (refine wpList_convert_str w rfl _ 28 9 5 rfl Try.underlying28 Try.underlying5 Try.underlying9 _ _ _ rfl ((l.drop u).take x.toNat) ?c1 ?c2 ?c3 ?_)
  · have h1 : (er != 0) = true := by assumption
    go_ret3
    exact ⟨by rw [HG.out, if_pos (by simpa using h1)]; rfl, rfl⟩
  · rw [List.length_take, List.length_drop, HN.out]; omega
  · intro hA
    have h0 := HL.out.none_ hA
    have h1 := HN.out
    subst h0
    simp at h1; omega
  · intro hA
    have h0 := HL.out.none_ hA
    have h1 := HN.out
    subst h0
    simp at h1; omega
  · have h0 : x.toNat = 0 := by omega
    rw [h0]; exact Lies.nil w A
  · have h1 : ¬ c = u := by assumption
    have h2 := HL.out.part (lo := u) (hi := u + x.toNat) (mx := c) (by omega)
    rw [if_neg h1, List.drop_take, show u + x.toNat - u = x.toNat from by omega] at h2
    exact h2
  all_goals
    have h1 : (er != 0) = false := by assumption
    go_ret3
    refine ⟨?_, rfl⟩
    rw [HG.out, if_neg (by simpa using h1)]
    have e1 : ((u + x.toNat : Nat) : Int) = (u : Int) + x := by omega
    rw [e1]; rfl

end Go.Proofs.Ytchlomkohjjpmaa
