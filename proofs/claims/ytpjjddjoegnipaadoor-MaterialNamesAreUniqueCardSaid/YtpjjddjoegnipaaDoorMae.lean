/-
  What the library's functions do, in this text's words; the tables that they read.
-/
import Derived.Test.YtpjjddjoegnipaaDoorShf
import Derived.Test.YtpjjddjoegnipaaDoorMa2
import Derived.Lib.AppendIntMem
import Derived.Lib.AtoiErrMem
import Derived.Lib.Join
namespace Go.Proofs.YtpjjddjoegnipaaDoor
open Go Go.RowKit
set_option linter.unusedVariables false
/-- the library's table of powers lies -/
def Pt (w : World) : Prop := Lib.TabIs Tryd.prog w "internal/strconv.uint64pow10" .u64 Lib.pow10Tab
/-- the library's variable ErrSyntax lies -/
def Es (w : World) : Prop := ∃ ev, w.cell? ⟨3, 0, none⟩ = some ev ∧ (ev = .nilIface ∨ ∃ te pe, ev = .iface te pe)
structure Ev (w : World) : Prop where
  k : Kt w
  p : Pt w
  e : Es w
theorem Pt.gr {w w' : World} (h : Pt w) (g : Gr w w') : Pt w' := Lib.tabBelow_of_tabIs h w' g
theorem Es.gr {w w' : World} (h : Es w) (g : Gr w w') : Es w' := by
  obtain ⟨ev, h1, h2⟩ := h
  exact ⟨ev, (g.cell (World.block_lt_of_cell? w _ h1)).trans h1, h2⟩
theorem Ev.gr {w w' : World} (h : Ev w) (g : Gr w w') : Ev w' := ⟨h.k.gr g, h.p.gr g, h.e.gr g⟩
/-- the blocks of those variables -/
def Glob (k : Nat) : Prop := k = 0 ∨ k = 2 ∨ k = 3
theorem Ev.lt {w : World} (h : Ev w) : ∀ k, Glob k → k < w.heap.size := by
  intro k hk
  rcases hk with rfl | rfl | rfl
  · exact World.block_lt_of_cell? w _ (h.k 0 _ rfl)
  · have h1 := h.p
    unfold Pt Lib.TabIs World.var? at h1
    rw [show Tryd.prog.globalNamed "internal/strconv.uint64pow10" = some 2 by kernel_rfl] at h1
    simp only [Option.bind_some] at h1
    rcases Nat.lt_or_ge 2 w.heap.size with h2 | h2
    · exact h2
    · rw [Array.getElem?_eq_none h2] at h1; cases h1
  · obtain ⟨ev, h1, _⟩ := h.e
    exact World.block_lt_of_cell? w _ h1
theorem Ev.chg {w w' : World} {F : Nat → Prop} (h : Ev w) (c : Chg F w w') (hF : ∀ k, F k → ¬ Glob k) : Ev w' := by
  have hb : ∀ k, Glob k → w'.heap[k]? = w.heap[k]? := fun k hk => c.block k (h.lt k hk) (fun h1 => hF k h1 hk)
  refine ⟨fun j v hj => (World.cell?_of_block (w := w) (a := ⟨0, 0 + j, none⟩) (hb _ (.inl rfl))).trans (h.k j v hj), ?_, ?_⟩
  · have h1 := h.p
    unfold Pt Lib.TabIs World.var? at h1 ⊢
    rw [show Tryd.prog.globalNamed "internal/strconv.uint64pow10" = some 2 by kernel_rfl] at h1 ⊢
    simp only [Option.bind_some] at h1 ⊢
    rw [hb _ (.inr (.inl rfl))]; exact h1
  · obtain ⟨ev, h1, h2⟩ := h.e
    exact ⟨ev, (World.cell?_of_block (w := w) (a := ⟨3, 0, none⟩) (hb _ (.inr (.inr rfl)))).trans h1, h2⟩
theorem Ev.st {w w' : World} {F : Nat → Prop} {L : List HP} (h : Ev w) (s : St w F L w') (hF : ∀ k, F k → ¬ Glob k) : Ev w' := h.chg s.chg hF
theorem noGlob : ∀ k, noB k → ¬ Glob k := fun _ h => h.elim
theorem Ev.fp {w : World} {F f : Nat → Prop} (h : Ev w) (hf : ∀ k, f k → F k ∨ w.heap.size ≤ k) (hF : ∀ k, F k → ¬ Glob k) : ∀ k, f k → ¬ Glob k := fun k hk hg => by
  rcases hf k hk with h1 | h1
  · exact hF k h1 hg
  · exact absurd (h.lt k hg) (Nat.not_lt.2 h1)
theorem idx_any (x : List UInt8) (c : UInt8) (w : World) : Calls Tryd.prog 62 #[.string (bstr x), .string ⟨#[c]⟩] w fun e w' => e = .returned (.int .i64 (Lib.indexByte x c)) ∧ Below w.heap.size w w' :=
  (Tryd.stringslite_Index_one (bstr x) c w).mono fun e w' ⟨he, hw⟩ => ⟨he, hw ▸ Below.refl _ _⟩
theorem itoa_any (n : Int) (w : World) (h : -9223372036854775808 ≤ n ∧ n ≤ 9223372036854775807) (hp : Pt w) : Calls Tryd.prog 46 #[.int .i64 n] w fun e w' => e = .returned (.string (bstr (Lib.itoa n))) ∧ Below w.heap.size w w' :=
  (Tryd.strconv_Itoa n h.1 h.2 w hp).mono fun e w' ⟨he, k, os, hw⟩ => ⟨he, hw ▸ Lib.below_grow _ w (Nat.le_refl _) k os⟩
theorem itoa_small : ∀ i : Fin 100, Lib.itoa (i.val : Int) = Lib.decDigits i.val := by decide +kernel
theorem itoas_any (n : Int) (w : World) (h : 0 ≤ n ∧ n < 100) : Calls Tryd.prog 46 #[.int .i64 n] w fun e w' => e = .returned (.string (bstr (Lib.itoa n))) ∧ Below w.heap.size w w' := by
  obtain ⟨i, rfl⟩ : ∃ i : Nat, n = (i : Int) := ⟨n.toNat, by omega⟩
  have hi : i < 100 := by omega
  refine (Tryd.strconv_Itoa_small i hi w).mono fun e w' ⟨he, hw⟩ => ⟨?_, hw ▸ Below.refl _ _⟩
  rw [he, ← itoa_small ⟨i, hi⟩]; rfl
theorem atoi_ok (x : List UInt8) (n : Int) (w : World) (hl : x.length ≤ 3) (h : Lib.atoi x = some n) : Calls Tryd.prog 71 #[.string (bstr x)] w fun e w' => e = .returned (.tuple #[.int .i64 n, .nilIface]) ∧ Below w.heap.size w w' :=
  (Tryd.strconv_Atoi (bstr x) n (by rw [bstr_size]; omega) h w).mono fun e w' ⟨he, t, hw⟩ => ⟨he, hw ▸ Lib.bytesWorld_below w _ t⟩
theorem atoi_err (x : List UInt8) (w : World) (hl : x.length ≤ 3) (h : Lib.atoi x = none) (hE : Es w) : Calls Tryd.prog 71 #[.string (bstr x)] w fun e w' => ∃ N, e = .returned (.tuple #[.int .i64 0, .iface 115 (.pointer (some ⟨N, 0, none⟩))]) ∧ Below w.heap.size w w' := by
  obtain ⟨ev, h1, h2⟩ := hE
  exact (Tryd.strconv_Atoi_err (bstr x) (by rw [bstr_size]; omega) h ev w h1 h2).mono fun e w' ⟨N, he, _, _, hb⟩ => ⟨N, he, hb⟩
theorem clone_any (x : List UInt8) (w : World) (hl : x.length ≤ 281474976710656) : Calls Tryd.prog 64 #[.string (bstr x)] w fun e w' => e = .returned (.string (bstr x)) ∧ Below w.heap.size w w' :=
  Tryd.stringslite_Clone (bstr x) w (by rw [bstr_size]; exact hl)
/-- strings as cells -/
def sv (l : List UInt8) : Value := .string (bstr l)
theorem own_lit {w : World} {e : TypeId} {A : Option Addr} {n c : Nat} {l : List (List UInt8)} (h : w.ownsRow 0 e 1 (.slice A n c) n (l.map sv)) {k : Nat} (hk : l.length = k) (h0 : 0 < k) : n = k ∧ ∃ g, A = some ⟨g, 0, none⟩ := by
  have h1 := h.1
  rw [List.length_map] at h1
  refine ⟨by omega, ?_⟩
  rcases h.2 with ⟨_, hn⟩ | ⟨g, cap, cur, hv, _⟩
  · omega
  · injection hv with hA; exact ⟨g, hA⟩
theorem own_len {w : World} {e : TypeId} {A : Option Addr} {n c : Nat} {l : List (List UInt8)} (h : w.ownsRow 0 e 1 (.slice A n c) n (l.map sv)) : n = l.length := by
  have h1 := h.1
  rw [List.length_map] at h1
  omega
theorem lies_at1 {w : World} {g : Nat} {xs : List Value} (h : Lies w (some ⟨g, 0, none⟩) xs) (j : Nat) {v : Value} (hj : xs[j]? = some v) : w.rangeAt g j [v] := by
  intro i u hu
  match i, hu with
  | 0, hu =>
    simp at hu
    subst hu
    rcases h with h0 | ⟨b, o, hA, hc⟩
    · rw [h0] at hj; simp at hj
    · injection hA with hA; injection hA with e1 e2; subst e1; subst e2
      have := hc j _ hj
      rwa [Nat.zero_add] at this
  | _ + 1, hu => simp at hu
theorem join_any (g c : Nat) (xs : List (List UInt8)) (sep : List UInt8) (w : World) (h : Lies w (some ⟨g, 0, none⟩) (xs.map sv)) (hg : g < w.heap.size) (hc : xs.length ≤ c) (hN : xs.length ≤ 100) (hl : (Lib.join xs sep).length ≤ 140737488355328) :
    Calls Tryd.prog 48 #[.slice (some ⟨g, 0, none⟩) xs.length c, .string (bstr sep)] w fun e w' => e = .returned (.string (bstr (Lib.join xs sep))) ∧ Below w.heap.size w w' := by
  have e1 : (xs.map bstr).map (·.data.toList) = xs := by rw [List.map_map]; exact List.map_id' xs
  have h1 := Tryd.strings_Join g 0 c (xs.map bstr) (bstr sep) w (by
    intro j x hx
    rcases h with h0 | ⟨b, o, hA, hcell⟩
    · have : xs = [] := by simpa using h0
      subst this; simp at hx
    · injection hA with hA; injection hA with e1 e2; subst e1; subst e2
      refine hcell j _ ?_
      rw [List.getElem?_map] at hx ⊢
      cases hj : xs[j]? with
      | none => rw [hj] at hx; simp at hx
      | some y => rw [hj] at hx; simp at hx; subst hx; rfl) hg (by rw [List.length_map]; omega) (by rw [List.length_map]; exact hc) (by rw [e1]; exact hl)
  rw [e1, List.length_map] at h1
  exact h1
end Go.Proofs.YtpjjddjoegnipaaDoor
