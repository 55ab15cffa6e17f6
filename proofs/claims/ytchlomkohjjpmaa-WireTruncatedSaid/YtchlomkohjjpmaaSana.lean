/-
  The steps of the examples that every statement plays first.
-/
import Derived.Test.YtchlomkohjjpmaaSame
namespace Go.Proofs.Ytchlomkohjjpmaa
open Go.RowKit

theorem below_alloc (W : World) (o : Obj) : Below W.heap.size W (W.alloc o) := (Below.refl _ _).alloc (Nat.le_refl _) o

/-- bytes in a block that was made last -/
theorem Lies.lit {W : World} {g : Nat} (hg : g = W.heap.size) (cs : Array Value) (t : TypeId) (l : List Value) (h : l.toArray = cs) : Lies (W.alloc (.cells cs t)) (some ⟨g, 0, none⟩) l := by
  subst hg h; exact Lies.new W l t

theorem sane_int (l : List UInt8) (cs : Array Value) (n : Nat) (x : Int) (u : Nat) (er : Int) (hcs : (l.map bv).toArray = cs) (hn : l.length = n) (hn2 : n ≤ 100) (h : Wm.getI l = (x, u, er)) (W : World) (g : Nat) (hg : g = W.heap.size) :
    Calls Try.prog 24 #[.slice (some ⟨g, 0, none⟩) n n] (W.alloc (.cells cs 5)) fun e w' => e = .returned (.tuple #[.int .i64 x, .int .i64 (u : Int), .int .i64 er]) ∧ Below W.heap.size W w' := by
  refine (getInt_any l _ n n _ hn (by omega) (Lies.lit hg cs _ _ hcs)).mono ?_
  rintro e w' ⟨rfl, rfl⟩
  rw [h]; exact ⟨rfl, below_alloc W _⟩

theorem sane_bytes (l : List UInt8) (cs : Array Value) (n : Nat) (x : ByteArray) (u : Nat) (er : Int) (hcs : (l.map bv).toArray = cs) (hn : l.length = n) (hn2 : n ≤ 100) (h : Wm.getS l = (x.data.toList, u, er)) (W : World) (g : Nat) (hg : g = W.heap.size) :
    Calls Try.prog 26 #[.slice (some ⟨g, 0, none⟩) n n] (W.alloc (.cells cs 5)) fun e w' => e = .returned (.tuple #[.string x, .int .i64 (u : Int), .int .i64 er]) ∧ Below W.heap.size W w' := by
  refine (getBytes_any l _ n n _ hn (by omega) (Lies.lit hg cs _ _ hcs) (Nat.le_refl _)).mono ?_
  rintro e w' ⟨rfl, rfl⟩
  rw [h]; exact ⟨rfl, below_alloc W _⟩

theorem sane_ints (l : List UInt8) (cs : Array Value) (n : Nat) (x : List Int) (m u : Nat) (er : Int) (hcs : (l.map bv).toArray = cs) (hn : l.length = n) (hn2 : n ≤ 100) (h : Wm.getL 1 Wm.getI l = (x, u, er)) (hm : x.length = m) (W : World) (g : Nat) (hg : g = W.heap.size) :
    Calls Try.prog 28 #[.slice (some ⟨g, 0, none⟩) n n] (W.alloc (.cells cs 5)) fun e w' => ∃ A c, e = .returned (.tuple #[.slice A m c, .int .i64 (u : Int), .int .i64 er]) ∧ Lies w' A (x.map iv) ∧ Below W.heap.size W w' := by
  refine (getInts_any l _ n n _ hn (by omega) (Lies.lit hg cs _ _ hcs) (Nat.le_refl _)).mono ?_
  rintro e w' ⟨v, rfl, ho, hb⟩
  rw [h] at ho ⊢
  simp only [hm] at ho
  obtain ⟨A, c, rfl, _, _, hl⟩ := own_shape ho
  exact ⟨A, c, rfl, hl, (below_alloc W _).trans (hb.mono (by simp))⟩

theorem sane_strings (l : List UInt8) (cs : Array Value) (n : Nat) (x : List (List UInt8)) (m u : Nat) (er : Int) (hcs : (l.map bv).toArray = cs) (hn : l.length = n) (hn2 : n ≤ 100) (h : Wm.getL 1 Wm.getS l = (x, u, er)) (hm : x.length = m) (W : World) (g : Nat) (hg : g = W.heap.size) :
    Calls Try.prog 31 #[.slice (some ⟨g, 0, none⟩) n n] (W.alloc (.cells cs 5)) fun e w' => ∃ A c, e = .returned (.tuple #[.slice A m c, .int .i64 (u : Int), .int .i64 er]) ∧ Lies w' A (x.map sv) ∧ Below W.heap.size W w' := by
  refine (getStrings_any l _ n n _ hn (by omega) (Lies.lit hg cs _ _ hcs) (Nat.le_refl _)).mono ?_
  rintro e w' ⟨v, rfl, ho, hb⟩
  rw [h] at ho ⊢
  simp only [hm] at ho
  obtain ⟨A, c, rfl, _, _, hl⟩ := own_shape ho
  exact ⟨A, c, rfl, hl, (below_alloc W _).trans (hb.mono (by simp))⟩

/-- an encoder's result as a slice -/
def EncPost (l : List UInt8) (W : World) (e : Ending) (w' : World) : Prop := ∃ A c, e = .returned (.slice A l.length c) ∧ l.length ≤ c ∧ Lies w' A (l.map bv) ∧ Below W.heap.size W w'

theorem enc_post {l : List UInt8} {W w' : World} {B : Nat} {v : Value} (ho : w'.ownsRow B 5 1 v l.length (l.map bv)) (hb : Below W.heap.size W w') : EncPost l W (.returned v) w' := by
  obtain ⟨A, c, rfl, h1, _, hl⟩ := own_shape ho
  exact ⟨A, c, rfl, h1, hl, hb⟩

theorem same_lit (l : List UInt8) (cs : Array Value) (n : Nat) (hcs : (l.map bv).toArray = cs) (hn : l.length = n) (A : Option Addr) (m c : Nat) (hm : l.length = m) (W : World) (g : Nat) (hg : g = W.heap.size) (hA : Lies W A (l.map bv)) :
    Calls Try.prog 13 #[.slice A m c, .slice (some ⟨g, 0, none⟩) n n] (W.alloc (.cells cs 5)) fun e w' => e = .returned (.bool true) ∧ Below W.heap.size W w' := by
  refine (same_any l A _ m n c n _ hm hn (hA.alloc _) (Lies.lit hg cs _ _ hcs)).mono ?_
  rintro e w' ⟨rfl, rfl⟩
  exact ⟨rfl, below_alloc W _⟩

theorem sane_digests (l : List (List UInt8)) (cs : Array Value) (n m : Nat) (r : List UInt8) (hcs : (dcells l).toArray = cs) (hf : Is16 l) (hn : l.length = n) (hn2 : n ≤ 100) (h : Wm.encDs l = r) (hm : r.length = m) (W : World) (g : Nat) (hg : g = W.heap.size) :
    Calls Try.prog 22 #[.slice (some ⟨g, 0, none⟩) n n] (W.alloc (.cells cs 57)) fun e w' => ∃ A c, e = .returned (.slice A m c) ∧ m ≤ c ∧ Lies w' A (r.map bv) ∧ Below W.heap.size W w' := by
  refine (digests_any l _ n n _ hn hf (Lies.lit hg cs _ _ hcs) (by omega)).mono ?_
  rintro e w' ⟨v, rfl, ho, hb⟩
  rw [h] at ho
  rw [hm] at ho
  obtain ⟨A, c, rfl, h1, _, hl⟩ := own_shape ho
  exact ⟨A, c, rfl, h1, hl, (below_alloc W _).trans (hb.mono (by simp))⟩

theorem sane_getDigests (l : List UInt8) (n c : Nat) (x : List (List UInt8)) (m u : Nat) (er : Int) (hn : l.length = n) (hn2 : n ≤ 100) (hnc : n ≤ c) (h : Wm.getL 16 Wm.getD l = (x, u, er)) (hm : x.length = m) (W : World) (A : Option Addr) (hA : Lies W A (l.map bv)) :
    Calls Try.prog 34 #[.slice A n c] W fun e w' => ∃ A c, e = .returned (.tuple #[.slice A m c, .int .i64 (u : Int), .int .i64 er]) ∧ Lies w' A (dcells x) ∧ Below W.heap.size W w' := by
  refine (getDigests_any l _ n c _ hn (by omega) hA hnc).mono ?_
  rintro e w' ⟨v, rfl, ho, hb⟩
  rw [h] at ho ⊢
  simp only [hm] at ho
  obtain ⟨A, c, rfl, _, _, hl⟩ := own_shape ho
  exact ⟨A, c, rfl, hl, hb⟩

theorem sane_sameTexts (l : List (List UInt8)) (cs : Array Value) (n : Nat) (hcs : (l.map sv).toArray = cs) (hn : l.length = n) (hn2 : n ≤ 100) (A : Option Addr) (c : Nat) (W : World) (g : Nat) (hg : g = W.heap.size) (hA : Lies W A (l.map sv)) :
    Calls Try.prog 33 #[.slice A n c, .slice (some ⟨g, 0, none⟩) n n] (W.alloc (.cells cs 9)) fun e w' => e = .returned (.bool true) ∧ Below W.heap.size W w' := by
  refine (sameTexts_any l A _ n n c n _ hn hn (by omega) (hA.alloc _) (Lies.lit hg cs _ _ hcs)).mono ?_
  rintro e w' ⟨rfl, hb⟩
  exact ⟨rfl, (below_alloc W _).trans (hb.mono (by simp))⟩

theorem sane_sameInts (l : List Int) (cs : Array Value) (n : Nat) (hcs : (l.map iv).toArray = cs) (hn : l.length = n) (hn2 : n ≤ 100) (A : Option Addr) (c : Nat) (W : World) (g : Nat) (hg : g = W.heap.size) (hA : Lies W A (l.map iv)) :
    Calls Try.prog 30 #[.slice A n c, .slice (some ⟨g, 0, none⟩) n n] (W.alloc (.cells cs 3)) fun e w' => e = .returned (.bool true) ∧ Below W.heap.size W w' := by
  refine (sameInts_any l A _ n n c n _ hn hn (by omega) (hA.alloc _) (Lies.lit hg cs _ _ hcs)).mono ?_
  rintro e w' ⟨rfl, hb⟩
  exact ⟨rfl, (below_alloc W _).trans (hb.mono (by simp))⟩

theorem sane_sameDigests (l : List (List UInt8)) (cs : Array Value) (n : Nat) (hcs : (dcells l).toArray = cs) (hf : Is16 l) (hn : l.length = n) (hn2 : n ≤ 100) (A : Option Addr) (c : Nat) (W : World) (g : Nat) (hg : g = W.heap.size) (hA : Lies W A (dcells l)) :
    Calls Try.prog 36 #[.slice A n c, .slice (some ⟨g, 0, none⟩) n n] (W.alloc (.cells cs 57)) fun e w' => e = .returned (.bool true) ∧ Below W.heap.size W w' := by
  refine (sameDigests_any l A _ n n c n _ hn hn hf (by omega) (hA.alloc _) (Lies.lit hg cs _ _ hcs)).mono ?_
  rintro e w' ⟨rfl, hb⟩
  exact ⟨rfl, (below_alloc W _).trans (hb.mono (by simp))⟩

theorem sane_encStrings (l : List (List UInt8)) (cs : Array Value) (n m : Nat) (r : List UInt8) (hcs : (l.map sv).toArray = cs) (hn : l.length = n) (hn2 : n ≤ 100) (h : Wm.encSs l = r) (hm : r.length = m) (hm2 : m ≤ 100) (W : World) (g : Nat) (hg : g = W.heap.size) :
    Calls Try.prog 20 #[.slice (some ⟨g, 0, none⟩) n n] (W.alloc (.cells cs 9)) fun e w' => ∃ A c, e = .returned (.slice A m c) ∧ Lies w' A (r.map bv) ∧ Below W.heap.size W w' := by
  refine (strings_any l _ n n _ hn (Lies.lit hg cs _ _ hcs) (by rw [h, hm]; omega) (by omega)).mono ?_
  rintro e w' ⟨v, rfl, ho, hb⟩
  rw [h] at ho
  rw [hm] at ho
  obtain ⟨A, c, rfl, h1, _, hl⟩ := own_shape ho
  exact ⟨A, c, rfl, hl, (below_alloc W _).trans (hb.mono (by simp))⟩

theorem sane_encInts (l : List Int) (cs : Array Value) (n m : Nat) (r : List UInt8) (hcs : (l.map iv).toArray = cs) (hf : Fits l) (hn : l.length = n) (hn2 : n ≤ 100) (h : Wm.encIs l = r) (hm : r.length = m) (hm2 : m ≤ 100) (W : World) (g : Nat) (hg : g = W.heap.size) :
    Calls Try.prog 18 #[.slice (some ⟨g, 0, none⟩) n n] (W.alloc (.cells cs 3)) fun e w' => ∃ A c, e = .returned (.slice A m c) ∧ Lies w' A (r.map bv) ∧ Below W.heap.size W w' := by
  refine (ints_any l _ n n _ hn hf (Lies.lit hg cs _ _ hcs) (by rw [h, hm]; omega) (by omega)).mono ?_
  rintro e w' ⟨v, rfl, ho, hb⟩
  rw [h] at ho
  rw [hm] at ho
  obtain ⟨A, c, rfl, h1, _, hl⟩ := own_shape ho
  exact ⟨A, c, rfl, hl, (below_alloc W _).trans (hb.mono (by simp))⟩

theorem sane_encInt (x : Int) (m : Nat) (r : List UInt8) (h : Wm.encI x = r) (hm : r.length = m) (h1 : -9223372036854775808 ≤ x) (h2 : x ≤ 9223372036854775807) (W : World) :
    Calls Try.prog 14 #[.int .i64 x] W fun e w' => ∃ A c, e = .returned (.slice A m c) ∧ Lies w' A (r.map bv) ∧ Below W.heap.size W w' := by
  refine (int_any x W h1 h2).mono ?_
  rintro e w' ⟨v, rfl, ho, hb⟩
  rw [h] at ho
  rw [hm] at ho
  obtain ⟨A, c, rfl, h1, _, hl⟩ := own_shape ho
  exact ⟨A, c, rfl, hl, hb⟩

theorem sane_encBytes (s : ByteArray) (m : Nat) (r : List UInt8) (h : Wm.encS s.data.toList = r) (hm : r.length = m) (h1 : s.size ≤ 100) (W : World) :
    Calls Try.prog 16 #[.string s] W fun e w' => ∃ A c, e = .returned (.slice A m c) ∧ Lies w' A (r.map bv) ∧ Below W.heap.size W w' := by
  refine (bytes_any s W (by omega)).mono ?_
  rintro e w' ⟨v, rfl, ho, hb⟩
  rw [h] at ho
  rw [hm] at ho
  obtain ⟨A, c, rfl, h1, _, hl⟩ := own_shape ho
  exact ⟨A, c, rfl, hl, hb⟩

theorem sane1 : Wm.getI [128, 1, 9] = (64, 2, 0) := by decide
theorem sane2 : Wm.getI [128] = (0, 0, 5) := by decide
theorem sane3 : Wm.getI [128, 0] = (0, 0, 6) := by decide
theorem sane4 : Wm.getS [4, 97, 98, 7] = ([97, 98], 3, 0) := by decide
theorem sane5 : Wm.getL 1 Wm.getI [4, 2, 1] = ([1, -1], 3, 0) := by decide
theorem sane6 : Wm.getL 1 Wm.getS [4, 0, 2, 97, 5] = ([[], [97]], 4, 0) := by decide
theorem sane7 : Wm.encI (-65) = [129, 1] := by simp [Wm.encI, Wm.zig, Wm.enc]
theorem sane8 : Wm.encSs [[], [97]] = [4, 0, 2, 97] := by simp [Wm.encSs, Wm.encS, Wm.encI, Wm.zig, Wm.enc]
theorem sane9 : Wm.encIs [1, -1] = [4, 2, 1] := by simp [Wm.encIs, Wm.encI, Wm.zig, Wm.enc]
theorem sane10 : Wm.encS [97, 98] = [4, 97, 98] := by simp [Wm.encS, Wm.encI, Wm.zig, Wm.enc]
theorem sane11 : Wm.encDs [[1, 2, 0, 0, 0, 0, 0, 0, 0, 0, 0, 0, 0, 0, 0, 0]] = [2, 1, 2, 0, 0, 0, 0, 0, 0, 0, 0, 0, 0, 0, 0, 0, 0] := by simp [Wm.encDs, Wm.encI, Wm.zig, Wm.enc]
theorem sane12 : Wm.getL 16 Wm.getD [2, 1, 2, 0, 0, 0, 0, 0, 0, 0, 0, 0, 0, 0, 0, 0, 0] = ([[1, 2, 0, 0, 0, 0, 0, 0, 0, 0, 0, 0, 0, 0, 0, 0]], 17, 0) := by decide

end Go.Proofs.Ytchlomkohjjpmaa
