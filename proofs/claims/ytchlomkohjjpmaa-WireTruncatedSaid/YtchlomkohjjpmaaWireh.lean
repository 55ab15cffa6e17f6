/-
  Contracts: lists of digests are decoded.
-/
import Derived.Test.YtchlomkohjjpmaaWireg
import Derived.Test.YtchlomkohjjpmaaBasec
namespace Go.Proofs.Ytchlomkohjjpmaa
open Go.RowKit

theorem Try.sizeU8 : (Try.prog.info? 5).map (·.size) = some 1 := by kernel_rfl
theorem Try.infoDgl : (Try.prog.info? 57).map (fun i => (i.zero, i.size, i.bytes)) = some (some (.agg #[.int .u8 0, .int .u8 0, .int .u8 0, .int .u8 0, .int .u8 0, .int .u8 0, .int .u8 0, .int .u8 0, .int .u8 0, .int .u8 0, .int .u8 0, .int .u8 0, .int .u8 0, .int .u8 0, .int .u8 0, .int .u8 0]), 16, 16) := by kernel_rfl

abbrev zero16 : Array Value := #[.int .u8 0, .int .u8 0, .int .u8 0, .int .u8 0, .int .u8 0, .int .u8 0, .int .u8 0, .int .u8 0, .int .u8 0, .int .u8 0, .int .u8 0, .int .u8 0, .int .u8 0, .int .u8 0, .int .u8 0, .int .u8 0]

set_option maxRecDepth 1000000 in
set_option maxHeartbeats 400000 in
theorem getDigest_any (l : List UInt8) (A : Option Addr) (n c : Nat) (w : World) (hn : l.length = n) (h : Lies w A (l.map bv)) (h16 : 16 ≤ n) (hlen : n ≤ 1099511627776) :
    Calls Try.prog 50 #[.slice A n c] w fun e w' => e = .returned (.tuple #[dv (l.take 16), .int .i64 16, .int .i64 0]) ∧ Below w.heap.size w w' := by
  obtain ⟨b, o, rfl, _⟩ := h.at_ (by
    have : 0 < (l.map bv).length := by rw [List.length_map]; omega
    exact List.ne_nil_of_length_pos this)
  generalize hd : (l.take 16) = d
  have hl : d.length = 16 := by rw [← hd, List.length_take]; omega
  have hL : Lies w (some ⟨b, o, none⟩) (d.map bv) := by rw [← hd, List.map_take]; exact h.take 16
  have HL := Lib.hid hL
  have HD := Lib.hid hl
  clear h hn hd hL hl
  go_enter Try.func50, Try.ntmps50
  have Hi2 := Lib.hid (show (Try.prog.info? 57).map (·.size) = some (d.map bv).toArray.size by rw [Try.infoDg, List.size_toArray, List.length_map, HD.out])
  have Hi1 := Lib.hid (show (Try.prog.info? 57).map (·.size) = some (d.map bv).length by rw [Try.infoDg, List.length_map, HD.out])
  go_wp2_with (first
    | (refine wpList_copy_new (w.alloc (.cells zero16 57)) rfl _ _ 28 28 rfl 5 57 Try.underlying28 Try.sizeU8 zero16 (d.map bv) (w.heap.size + 1) b o 16 n _ _ ?c1 ?c2 rfl rfl (HL.out.alloc _) rfl h16 (bvs_one d) ?_)
    | (refine wpList_load_new_at (w.alloc (.cells zero16 57)) rfl 57 _ rfl (w.heap.size + 1) ?c3 (d.map bv).toArray rfl _ _ Try.underlying57 Hi2.out ?_)
    | (refine wpList_store_mid rfl 57 _ _ rfl w.heap.size 0 (d.map bv).toArray rfl rfl ?c4 Hi2.out ?c5 ?_))
  case c1 => simp
  case c2 => rw [List.length_map, HD.out]
  case c3 => simp
  case c4 =>
    have h1 := there_new w zero16 57 (.cells (d.map bv).toArray 57)
    have e16 : (d.map bv).toArray.size = 16 := by rw [List.size_toArray, List.length_map, HD.out]
    rw [e16]; exact h1
  case c5 => exact all_oneCell_toArray (bvs_one d)
  have hth := there_new w zero16 57 (.cells (d.map bv).toArray 57)
  have hr := World.rangeAt_setCells_same ((w.alloc (.cells zero16 57)).alloc (.cells (d.map bv).toArray 57)) w.heap.size 0 (d.map bv) (by rw [List.length_map, HD.out]; exact hth)
  refine bodyPost_ret (results_cell_tmp2 rfl _ _ _ w.heap.size 0 (d.map bv) _ rfl hr Try.underlying57 rfl Hi1.out) rfl ⟨rfl, ?_⟩
  exact below_setCells (Nat.le_refl _) _ _ _ _ (((Below.refl _ _).alloc (Nat.le_refl _) _).alloc (by simp) _)

end Go.Proofs.Ytchlomkohjjpmaa
