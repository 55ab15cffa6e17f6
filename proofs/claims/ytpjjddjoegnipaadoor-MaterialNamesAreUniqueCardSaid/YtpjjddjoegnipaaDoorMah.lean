/-
  Tables in a block; what a text's reading gives, under a name.
-/
import Derived.Test.YtpjjddjoegnipaaDoorMc14
import Derived.Test.YtpjjddjoegnipaaDoorMc15
import Derived.Test.YtpjjddjoegnipaaDoorMc5
import Derived.Test.YtpjjddjoegnipaaDoorMc6
namespace Go.Proofs.YtpjjddjoegnipaaDoor
open Go Go.RowKit
set_option linter.unusedVariables false
theorem Tbl.ofBlk {w0 w : World} {F : Nat → Prop} {L : List HP} {g : Nat} {t : TypeId} {cs : List Value} (h : St w0 F L w) (i : Nat) (hL : L[i]? = some (blk g t cs)) (ms : List Ma.Mt) (n : Nat) (hm : mcs ms = cs) (hn : ms.length = n) (hb : n ≤ 9223372036854775807) : Tbl w (some ⟨g, 0, none⟩) n n ms :=
  ⟨hn, by rw [hm]; exact h.liesBlk i hL, Nat.le_refl _, hb⟩
theorem read_mc {w : World} {g : Nat} {ms : List Ma.Mt} (h : Lies w (some ⟨g, 0, none⟩) (mcs ms)) (k : Nat) {m : Ma.Mt} (hk : ms[k]? = some m) : w.rangeAt g (0 + k * 8) (mc m) := Lies.elem mc_len h hk
theorem parse_v (x : List UInt8) (ms : List Ma.Mt) (a b : Int) (w : World) (hp : Ma.parse x = (ms, a, b)) (hx : x.length ≤ 281474976710656) (hE : Ev w) :
    Calls Tryd.prog 27 #[.string (bstr x)] w fun e w' => ∃ A n c, e = .returned (.tuple #[.slice A n c, .int .i64 a, .int .i64 b]) ∧ St w noB [own (.slice A n c) 35 8 n (mcs ms)] w' := by
  have h := parse_any x w hx hE
  rw [hp] at h
  exact h
def Ma.lamp : Ma.Mt := ⟨[108, 97, 109, 112], true, false, false, 16, 15, 14, 10⟩
def Ma.txt2 : List UInt8 := [97, 105, 114, 32, 103, 97, 115, 32, 102, 97, 100, 101, 32, 49, 10, 108, 97, 109, 112, 32, 115, 111, 108, 105, 100, 32, 102, 97, 100, 101, 32, 49, 54, 32, 101, 109, 105, 116, 32, 49, 53, 32, 49, 52, 32, 49, 48, 10]
theorem Ma.p2 : Ma.parse Ma.txt2 = ([Ma.air, Ma.lamp], 0, 0) := by decide +kernel
theorem Ma.p01 : Ma.parse [97, 105, 114, 32, 103, 97, 115, 32, 102, 97, 100, 101, 32, 48, 49, 10] = ([], 1, 3) := by decide +kernel
theorem Ma.pb2 : Ma.parse [97, 105, 114, 32, 103, 97, 115, 32, 102, 97, 100, 101, 32, 50, 10] = ([], 1, 1) := by decide +kernel
end Go.Proofs.YtpjjddjoegnipaaDoor
