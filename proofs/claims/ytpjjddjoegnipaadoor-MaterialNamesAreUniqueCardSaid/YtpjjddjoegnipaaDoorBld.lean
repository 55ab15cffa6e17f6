/-
  A strings.Builder of the call's own, as an assertion. (No program.)
-/
import Derived.Test.YtpjjddjoegnipaaDoorSep
import Derived.Lib.OthersKept
namespace Go.Proofs.YtpjjddjoegnipaaDoor
open Go Go.RowKit
set_option linter.unusedVariables false
/-- a builder in block b that holds bs, with the block of its buffer -/
def bld (T e : TypeId) (b : Nat) (bs : List Value) : HP where
  holds w f := ∃ p v, (p = Value.pointer none ∨ p = .pointer (some ⟨b, 0, none⟩)) ∧ w.heap[b]? = some (.cells #[p, v] T (0, 0)) ∧ w.ownsRowF b e 1 v bs.length bs ∧ v.ownBlock ≠ some b ∧ ∀ k, f k ↔ k = b ∨ v.ownBlock = some k
  lt := by
    rintro w f ⟨p, v, _, hb, ho, _, hf⟩ k hk
    rcases (hf k).1 hk with rfl | h
    · exact (Array.getElem?_eq_some_iff.1 hb).1
    · exact (ho.lt k h).2
  keep := by
    rintro w w' f ⟨p, v, hp, hb, ho, hne, hf⟩ hk
    refine ⟨p, v, hp, (hk b ((hf b).2 (.inl rfl))).trans hb, ⟨ho.1, ?_⟩, hne, hf⟩
    rcases ho.2 with hv | ⟨g, cap, cur, fz, rfl, hbb, hgg, rest⟩
    · exact .inl hv
    · exact .inr ⟨g, cap, cur, fz, rfl, hbb, (hk g ((hf g).2 (.inr rfl))).trans hgg, rest⟩
section
variable {w0 w w' : World} {T e : TypeId} {b : Nat} {bs bs' : List Value}
theorem bld_is {f : Nat → Prop} (h : (bld T e b bs).holds w f) : Lib.IsBuilderF T e b b bs w := by
  obtain ⟨p, v, hp, hb, ho, hne, _⟩ := h
  rcases hp with rfl | rfl
  · exact .inl ⟨Nat.le_refl _, v, hb, ho, hne⟩
  · exact .inr ⟨Nat.le_refl _, v, hb, ho, hne⟩
theorem bld_of (h : Lib.IsBuilderF T e b b bs w) : ∃ f, (bld T e b bs).holds w f ∧ ∀ k, f k → b ≤ k := by
  have key : ∀ p, (p = Value.pointer none ∨ p = .pointer (some ⟨b, 0, none⟩)) → Lib.BuilderAtF T e b b p bs w → ∃ f, (bld T e b bs).holds w f ∧ ∀ k, f k → b ≤ k := by
    rintro p hp ⟨_, v, hb, ho, hne⟩
    refine ⟨fun k => k = b ∨ v.ownBlock = some k, ⟨p, v, hp, hb, ho, hne, fun _ => Iff.rfl⟩, ?_⟩
    rintro k (rfl | hk)
    · exact Nat.le_refl _
    · exact (ho.lt k hk).1
  rcases h with h | h
  · exact key _ (.inl rfl) h
  · exact key _ (.inr rfl) h
/-- a builder just made -/
theorem St.toBld {F : Nat → Prop} {M : List HP} (h : St w0 F (blk b T [.pointer none, .slice none 0 0] :: M) w) : St w0 F (bld T e b [] :: M) w := by
  obtain ⟨f, ⟨a, r, ha, hr, hd, hfe⟩, hF⟩ := h.sts
  refine ⟨h.chg, f, ⟨a, r, ⟨.pointer none, .slice none 0 0, .inl rfl, ha.1, World.ownsRowF_nil w b e 1, by simp [Value.ownBlock], fun k => (ha.2 k).trans ?_⟩, hr, hd, hfe⟩, hF⟩
  simp [Value.ownBlock]
theorem St.isBld (h : St w0 noB [bld T e b bs] w) : Lib.IsBuilderF T e b b bs w ∧ w0.heap.size ≤ b ∧ b ≤ w.heap.size := by
  obtain ⟨f, ⟨a, r, ha, _, _, hfe⟩, hF⟩ := h.sts
  have hb : f b := (hfe b).2 (.inl (by obtain ⟨p, v, _, _, _, _, hf⟩ := ha; exact (hf b).2 (.inl rfl)))
  refine ⟨bld_is ha, (hF b hb).resolve_left (fun h => h), ?_⟩
  exact Nat.le_of_lt ((bld T e b bs).lt ha b (by obtain ⟨p, v, _, _, _, _, hf⟩ := ha; exact (hf b).2 (.inl rfl)))
/-- what is written on it -/
theorem St.wrote (h : St w0 noB [bld T e b bs] w) (hb : Below b w w') (hi : Lib.IsBuilderF T e b b bs' w') : St w0 noB [bld T e b bs'] w' := by
  obtain ⟨_, h1, h2⟩ := h.isBld
  obtain ⟨f, hf, hk⟩ := bld_of hi
  refine ⟨⟨hb.os.trans h.chg.os, hb.tape.trans h.chg.tape, hb.output.trans h.chg.output, Nat.le_trans h.chg.size hb.size, fun k hk1 _ => (hb.block k (Nat.lt_of_lt_of_le hk1 h1)).trans (h.chg.block k hk1 (fun h => h))⟩, f, ⟨f, noB, hf, fun _ h => h, fun _ _ h => h, fun k => by simp [noB]⟩, fun k hk2 => .inr (Nat.le_trans h1 (hk k hk2))⟩
end
end Go.Proofs.YtpjjddjoegnipaaDoor
