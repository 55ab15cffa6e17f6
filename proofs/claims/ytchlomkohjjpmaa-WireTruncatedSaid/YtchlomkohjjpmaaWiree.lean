/-
  Contracts: lists are encoded.
-/
import Derived.Test.YtchlomkohjjpmaaWired
namespace Go.Proofs.Ytchlomkohjjpmaa
open Go.RowKit

/-- an integer as a cell -/
def iv (n : Int) : Value := .int .i64 n

/-- a byte string as a cell -/
def sv (s : List UInt8) : Value := .string (bstr s)

/-- the integers of a list fit -/
def Fits (l : List Int) : Prop := ∀ n ∈ l, -9223372036854775808 ≤ n ∧ n ≤ 9223372036854775807

theorem Lies.at1 {w : World} {b o : Nat} {xs : List Value} (h : Lies w (some ⟨b, o, none⟩) xs) {k : Nat} {u : Value} (hu : xs[k]? = some u) : w.cell? ⟨b, o + k, none⟩ = some u := by
  rcases h with h | ⟨b', o', hA, hc⟩
  · subst h; simp at hu
  · injection hA with hA
    injection hA with h1 h2
    subst h1 h2
    exact hc k u hu

set_option maxRecDepth 1000000 in
set_option maxHeartbeats 400000 in
theorem listInt_any (l : List Int) (A : Option Addr) (n c : Nat) (w : World) (hn : l.length = n) (hf : Fits l) (h : Lies w A (l.map iv)) (hlen : (Wm.encIs l).length ≤ 70368744170000) (hn2 : n ≤ 140737488355328) :
    Calls Try.prog 40 #[.slice A n c, .func (.func 38) #[] #[]] w fun e w' => ∃ v', e = .returned v' ∧ w'.ownsRow w.heap.size 5 1 v' (Wm.encIs l).length ((Wm.encIs l).map bv) ∧ Below w.heap.size w w' := by
  have HL := Lib.hid h
  have HN := Lib.hid hn
  have HF := Lib.hid hf
  have HE := Lib.hid hlen
  clear h hn hf hlen
  go_enter Try.func40, Try.ntmps40
  go_wp2_with fail
  refine (putInt_any (n : Int) w.heap.size 0 (.slice none 0 0) [] w (by omega) (by omega) (World.ownsRow_nil _ _ _ _) (Nat.le_refl _) (by omega)).mono ?_
  rintro e w1 ⟨v1, rfl, ho, hb⟩
  go_wp2_with fail
  go_loopw [5, 13] (fun b i wr => ∃ k : Nat, i = .int .i64 (k : Int) ∧ k ≤ n ∧ wr.ownsRow w.heap.size 5 1 b (Wm.encI (n : Int) ++ (l.take k).flatMap Wm.encI).length ((Wm.encI (n : Int) ++ (l.take k).flatMap Wm.encI).map bv) ∧ Below w.heap.size w wr)
    (fun _ i _ => n - (intOf i).toNat)
  case atStart => exact ⟨0, rfl, by omega, by simpa using ho, hb⟩
  case round =>
    obtain ⟨k, rfl, hk, hown, hbel⟩ := hrel
    have hsz := hbel.size
    by_cases hlt : k < n
    · have hkl : k < l.length := by rw [HN.out]; exact hlt
      obtain ⟨b, o, hA, _⟩ := HL.out.at_ (by simpa using List.ne_nil_of_length_pos (show 0 < l.length by omega))
      subst hA
      have hx := List.getElem?_eq_getElem hkl
      generalize l[k] = x at hx
      have hc : wr.cell? ⟨b, o + k, none⟩ = some (.int .i64 x) := (HL.out.below hbel).at1 (by rw [List.getElem?_map, hx]; rfl)
      have hxf := HF.out x (List.mem_of_getElem? hx)
      have hfs := Wm.flat_succ Wm.encI l k x hx
      have hle := Wm.flat_take Wm.encI l k
      have hEE := HE.out
      unfold Wm.encIs at hEE
      rw [List.length_append, HN.out] at hEE
      have hkk : (Wm.encI (n : Int) ++ (l.take k).flatMap Wm.encI).length ≤ 70368744177664 := by rw [List.length_append]; omega
      have HS := Lib.hid hfs
      have HK := Lib.hid hkk
      clear hx hkl hfs hle hEE hkk
      go_wp2_with (go_at_call 38; go_loud (refine (putInt_any x w.heap.size _ _ (Wm.encI (n : Int) ++ (l.take k).flatMap Wm.encI) wr hxf.1 hxf.2 hown hsz HK.out).mono ?_); rintro e w2 ⟨v2, rfl, ho2, hb2⟩)
      go_roundw
      case rel =>
        refine ⟨k + 1, by go_num, by omega, ?_, hbel.trans hb2⟩
        rw [HS.out, ← List.append_assoc]
        simpa [Nat.add_assoc] using ho2
      case measure => simp [intOf]; omega
    · have hkn : k = n := by omega
      subst hkn
      go_wp2
      go_ret
      refine ⟨_, rfl, ?_, hbel⟩
      unfold Wm.encIs
      rw [HN.out]
      rw [List.take_of_length_le (by rw [HN.out]; exact Nat.le_refl _)] at hown
      exact hown

set_option maxRecDepth 1000000 in
set_option maxHeartbeats 400000 in
theorem listStr_any (l : List (List UInt8)) (A : Option Addr) (n c : Nat) (w : World) (hn : l.length = n) (h : Lies w A (l.map sv)) (hlen : (Wm.encSs l).length ≤ 70368744170000) (hn2 : n ≤ 140737488355328) :
    Calls Try.prog 41 #[.slice A n c, .func (.func 39) #[] #[]] w fun e w' => ∃ v', e = .returned v' ∧ w'.ownsRow w.heap.size 5 1 v' (Wm.encSs l).length ((Wm.encSs l).map bv) ∧ Below w.heap.size w w' := by
  have HL := Lib.hid h
  have HN := Lib.hid hn
  have HE := Lib.hid hlen
  clear h hn hlen
  go_enter Try.func41, Try.ntmps41
  go_wp2_with fail
  refine (putInt_any (n : Int) w.heap.size 0 (.slice none 0 0) [] w (by omega) (by omega) (World.ownsRow_nil _ _ _ _) (Nat.le_refl _) (by omega)).mono ?_
  rintro e w1 ⟨v1, rfl, ho, hb⟩
  go_wp2_with fail
  go_loopw [5, 13] (fun b i wr => ∃ k : Nat, i = .int .i64 (k : Int) ∧ k ≤ n ∧ wr.ownsRow w.heap.size 5 1 b (Wm.encI (n : Int) ++ (l.take k).flatMap Wm.encS).length ((Wm.encI (n : Int) ++ (l.take k).flatMap Wm.encS).map bv) ∧ Below w.heap.size w wr)
    (fun _ i _ => n - (intOf i).toNat)
  case atStart => exact ⟨0, rfl, by omega, by simpa using ho, hb⟩
  case round =>
    obtain ⟨k, rfl, hk, hown, hbel⟩ := hrel
    have hsz := hbel.size
    by_cases hlt : k < n
    · have hkl : k < l.length := by rw [HN.out]; exact hlt
      obtain ⟨b, o, hA, _⟩ := HL.out.at_ (by simpa using List.ne_nil_of_length_pos (show 0 < l.length by omega))
      subst hA
      have hx := List.getElem?_eq_getElem hkl
      generalize l[k] = x at hx
      have hc : wr.cell? ⟨b, o + k, none⟩ = some (.string (bstr x)) := (HL.out.below hbel).at1 (by rw [List.getElem?_map, hx]; rfl)
      have hfs := Wm.flat_succ Wm.encS l k x hx
      have hle := Wm.flat_take Wm.encS l
      have hle2 := hle (k + 1)
      rw [hfs, List.length_append] at hle2
      have hle3 := hle k
      have hES : (Wm.encS x).length = (Wm.encI (x.length : Int)).length + x.length := by unfold Wm.encS; rw [List.length_append]
      have hxs : (bstr x).size = x.length := bstr_size x
      have hEE := HE.out
      unfold Wm.encSs at hEE
      rw [List.length_append, HN.out] at hEE
      have hkk : (Wm.encI (n : Int) ++ (l.take k).flatMap Wm.encS).length ≤ 70368744177000 := by rw [List.length_append]; omega
      have hxl : (bstr x).size ≤ 70368744177664 := by omega
      have HX := Lib.hid hxl
      have HS := Lib.hid hfs
      have HK := Lib.hid hkk
      clear hx hkl hfs hle hle2 hle3 hES hxs hEE hkk hxl
      go_wp2_with (go_at_call 39; go_loud (refine (putBytes_any (bstr x) w.heap.size _ _ (Wm.encI (n : Int) ++ (l.take k).flatMap Wm.encS) wr HX.out hown hsz HK.out).mono ?_); rintro e w2 ⟨v2, rfl, ho2, hb2⟩)
      go_roundw
      case rel =>
        refine ⟨k + 1, by go_num, by omega, ?_, hbel.trans hb2⟩
        rw [HS.out, ← List.append_assoc]
        simpa [Nat.add_assoc, bstr_data] using ho2
      case measure => simp [intOf]; omega
    · have hkn : k = n := by omega
      subst hkn
      go_wp2
      go_ret
      refine ⟨_, rfl, ?_, hbel⟩
      unfold Wm.encSs
      rw [HN.out]
      rw [List.take_of_length_le (by rw [HN.out]; exact Nat.le_refl _)] at hown
      exact hown


theorem ints_any (l : List Int) (A : Option Addr) (n c : Nat) (w : World) (hn : l.length = n) (hf : Fits l) (h : Lies w A (l.map iv)) (hlen : (Wm.encIs l).length ≤ 70368744170000) (hn2 : n ≤ 140737488355328) :
    Calls Try.prog 18 #[.slice A n c] w fun e w' => ∃ v', e = .returned v' ∧ w'.ownsRow w.heap.size 5 1 v' (Wm.encIs l).length ((Wm.encIs l).map bv) ∧ Below w.heap.size w w' := by
  have C := Lib.hid (listInt_any l A n c w hn hf h hlen hn2)
  clear hn hf h hlen
  go_enter Try.func18, Try.ntmps18
  go_wp2_with fail
  refine C.out.mono ?_
  rintro e w1 ⟨v', rfl, ho, hb⟩
  clear C
  go_wp2
  go_ret
  exact ⟨v', rfl, ho, hb⟩

theorem strings_any (l : List (List UInt8)) (A : Option Addr) (n c : Nat) (w : World) (hn : l.length = n) (h : Lies w A (l.map sv)) (hlen : (Wm.encSs l).length ≤ 70368744170000) (hn2 : n ≤ 140737488355328) :
    Calls Try.prog 20 #[.slice A n c] w fun e w' => ∃ v', e = .returned v' ∧ w'.ownsRow w.heap.size 5 1 v' (Wm.encSs l).length ((Wm.encSs l).map bv) ∧ Below w.heap.size w w' := by
  have C := Lib.hid (listStr_any l A n c w hn h hlen hn2)
  clear hn h hlen
  go_enter Try.func20, Try.ntmps20
  go_wp2_with fail
  refine C.out.mono ?_
  rintro e w1 ⟨v', rfl, ho, hb⟩
  clear C
  go_wp2
  go_ret
  exact ⟨v', rfl, ho, hb⟩

end Go.Proofs.Ytchlomkohjjpmaa
