/-
  Contracts of voxelref02: the words of a block.
-/
import Derived.Test.YtdbdlhgkhnenfaaDoorGd
import Derived.Test.YtdbdlhgkhnenfaaDoorGf
import Derived.Test.YtdbdlhgkhnenfaaDoorGa
namespace Go.Proofs.YtdbdlhgkhnenfaaDoor
open Go.RowKit
open Sha (wv)

theorem two_rows64 (w : World) (t1 t2 : TypeId) :
    Row w.heap.size (fill64 []) ((w.alloc (.cells (List.replicate 64 (Value.int .u32 0)).toArray t1)).alloc (.cells (List.replicate 64 (Value.int .u32 0)).toArray t2)) ∧
    Row (w.heap.size + 1) (fill64 []) ((w.alloc (.cells (List.replicate 64 (Value.int .u32 0)).toArray t1)).alloc (.cells (List.replicate 64 (Value.int .u32 0)).toArray t2)) ∧
    Below w.heap.size w ((w.alloc (.cells (List.replicate 64 (Value.int .u32 0)).toArray t1)).alloc (.cells (List.replicate 64 (Value.int .u32 0)).toArray t2)) ∧
    w.heap.size + 1 < ((w.alloc (.cells (List.replicate 64 (Value.int .u32 0)).toArray t1)).alloc (.cells (List.replicate 64 (Value.int .u32 0)).toArray t2)).heap.size := by
  have h1 := Row.newl w (List.replicate 64 (Value.int .u32 0)) t1
  have h2 := Row.newl (w.alloc (.cells (List.replicate 64 (Value.int .u32 0)).toArray t1)) (List.replicate 64 (Value.int .u32 0)) t2
  have e1 : (w.alloc (.cells (List.replicate 64 (Value.int .u32 0)).toArray t1)).heap.size = w.heap.size + 1 := by simp
  rw [e1] at h2
  have z : List.replicate 64 (Value.int .u32 0) = fill64 [] := by simp [fill64]
  rw [z] at h1 h2 ⊢
  exact ⟨h1.alloc _, h2, ((Below.refl _ _).alloc (Nat.le_refl _) _).alloc (by simp) _, by simp⟩

set_option maxRecDepth 1000000 in
set_option maxHeartbeats 2000000 in
theorem hrWords_any (l : List UInt8) (b o c : Nat) (w : World) (hn : l.length = 64) (hl : Lies w (some ⟨b, o, none⟩) (l.map bv)) :
    Calls Tryd.prog 78 #[.slice (some ⟨b, o, none⟩) 64 c] w fun e w' => e = .returned (.agg ((Sha.words l).map wv).toArray) ∧ Below w.heap.size w w' := by
  have HN := Lib.hid hn
  have HL := Lib.hid hl
  clear hn hl
  go_enter Tryd.func78, Tryd.ntmps78
  go_wp2_with fail
  go_loopw [4] (fun i wr => ∃ k : Nat, i = .int .i64 (k : Int) ∧ k ≤ 16 ∧ Row w.heap.size (fill64 []) wr ∧ Row (w.heap.size + 1) (fill64 (Sha.heads l k)) wr ∧ Below w.heap.size w wr ∧ w.heap.size + 1 < wr.heap.size) (fun i _ => 16 - (intOf i).toNat)
  case atStart =>
    obtain ⟨q1, q2, q3, q4⟩ := two_rows64 w 102 102
    exact ⟨0, rfl, by omega, q1, q2, q3, q4⟩
  case round =>
    obtain ⟨k, rfl, hk, hR2, hR3, hbel, hsz⟩ := hrel
    by_cases hlt : k < 16
    · have hcs := (HL.out.below hbel).cells8
      have hc0 := hcs (4 * k) (by rw [HN.out]; omega)
      have hc1 := hcs (4 * k + 1) (by rw [HN.out]; omega)
      have hc2 := hcs (4 * k + 2) (by rw [HN.out]; omega)
      have hc3 := hcs (4 * k + 3) (by rw [HN.out]; omega)
      have hw0 := hR3 k (.int .u32 0) (fill64_zero _ _ (Sha.heads_len l k) (by omega))
      obtain ⟨hw1, hw2⟩ := hw0
      have E := be_bits (l.getD (4 * k) 0) (l.getD (4 * k + 1) 0) (l.getD (4 * k + 2) 0) (l.getD (4 * k + 3) 0)
      have HROW := Lib.hid hR3
      have H2 := Lib.hid hR2
      have HBEL := Lib.hid hbel
      have h0 := (l.getD (4 * k) 0).toNat_lt
      have h1 := (l.getD (4 * k + 1) 0).toNat_lt
      have h2 := (l.getD (4 * k + 2) 0).toNat_lt
      have h3 := (l.getD (4 * k + 3) 0).toNat_lt
      generalize (l.getD (4 * k) 0).toNat = x0 at *
      generalize (l.getD (4 * k + 1) 0).toNat = x1 at *
      generalize (l.getD (4 * k + 2) 0).toNat = x2 at *
      generalize (l.getD (4 * k + 3) 0).toNat = x3 at *
      have hki : (k : Int) < 16 := by omega
      have j0 : 4 * (k : Int) < 64 := by omega
      have j1 : 4 * (k : Int) + 1 < 64 := by omega
      have j2 : 4 * (k : Int) + 2 < 64 := by omega
      have j3 : 4 * (k : Int) + 3 < 64 := by omega
      have EE := Lib.hid E
      clear hcs hR2 hR3 hbel E
      go_wp2_with fail
      go_region
      go_wp2_with fail
      rw [EE.out]
      go_roundw
      case rel =>
        have hlen := Sha.heads_len l k
        have hr := (HROW.out.set k (wv (Sha.be (l.getD (4 * k) 0) (l.getD (4 * k + 1) 0) (l.getD (4 * k + 2) 0) (l.getD (4 * k + 3) 0))) (by rw [fill64_len _ (by omega)]; omega))
        have hs := fill64_step (Sha.heads l k) (Sha.be (l.getD (4 * k) 0) (l.getD (4 * k + 1) 0) (l.getD (4 * k + 2) 0) (l.getD (4 * k + 3) 0)) (by omega)
        rw [hlen] at hs
        rw [hs] at hr
        exact ⟨k + 1, by go_num, by omega, (show Row w.heap.size (fill64 []) wr.drew from H2.out).far (by omega) k [_], hr, below_drew (HBEL.out.setCell (p := ⟨w.heap.size + 1, k, none⟩) (by simp) _), by simpa using hsz⟩
      case measure => simp [intOf]; omega
    · have hk16 : k = 16 := by omega
      subst hk16
      have H2 := Lib.hid hR2
      have H3 := Lib.hid hR3
      have HB := Lib.hid hbel
      clear hR2 hR3 hbel
      go_wp2_with fail
      go_loopw [5] (fun i wr => ∃ (k : Nat) (ws : List (BitVec 32)), i = .int .i64 (k : Int) ∧ 16 ≤ k ∧ k ≤ 64 ∧ ws.length = k ∧ Sha.words l = Sha.more ws (64 - k) ∧ Row (w.heap.size) (fill64 []) wr ∧ Row (w.heap.size + 1) (fill64 ws) wr ∧ Below w.heap.size w wr ∧ w.heap.size + 1 < wr.heap.size) (fun i _ => 64 - (intOf i).toNat)
      case atStart => exact ⟨16, Sha.heads l 16, rfl, by omega, by omega, Sha.heads_len l 16, rfl, H2.out, H3.out, HB.out, hsz⟩
      case round =>
        obtain ⟨k, ws, rfl, hk16, hk64, hlen, hws, hr2, hrow, hbel, hsz⟩ := hrel
        by_cases hlt : k < 64
        · have hat : ∀ j, j < k → wr.cell? ⟨w.heap.size + 1, j, none⟩ = some (.int .u32 ((Sha.at_ ws j).toNat : Int)) := by
            intro j hj
            exact (hrow j (wv (Sha.at_ ws j)) (fill64_at ws j (by omega))).1
          have r7 : ∀ (x : BitVec 32) (W : World), Calls Tryd.prog 79 #[wv x, .int .i64 7] W fun e w' => e = .returned (wv (Sha.rotr x 7)) ∧ ∃ q, w' = W.drewN q := fun x W => hrRotr_any x 7 W (by omega)
          have r18 : ∀ (x : BitVec 32) (W : World), Calls Tryd.prog 79 #[wv x, .int .i64 18] W fun e w' => e = .returned (wv (Sha.rotr x 18)) ∧ ∃ q, w' = W.drewN q := fun x W => hrRotr_any x 18 W (by omega)
          have r17 : ∀ (x : BitVec 32) (W : World), Calls Tryd.prog 79 #[wv x, .int .i64 17] W fun e w' => e = .returned (wv (Sha.rotr x 17)) ∧ ∃ q, w' = W.drewN q := fun x W => hrRotr_any x 17 W (by omega)
          have r19 : ∀ (x : BitVec 32) (W : World), Calls Tryd.prog 79 #[wv x, .int .i64 19] W fun e w' => e = .returned (wv (Sha.rotr x 19)) ∧ ∃ q, w' = W.drewN q := fun x W => hrRotr_any x 19 W (by omega)
          have H7 := Lib.hid r7
          have H18 := Lib.hid r18
          have H17 := Lib.hid r17
          have H19 := Lib.hid r19
          have H2 := Lib.hid hr2
          clear hr2
          have hc15 := hat (k - 15) (by omega)
          have hc2 := hat (k - 2) (by omega)
          have hc16 := hat (k - 16) (by omega)
          have hc7 := hat (k - 7) (by omega)
          have hw0 := hrow k (.int .u32 0) (fill64_zero _ _ hlen (by omega))
          obtain ⟨hw1, hw2⟩ := hw0
          have HLEN := Lib.hid hlen
          have HWS := Lib.hid hws
          have HROW := Lib.hid hrow
          have HBEL := Lib.hid hbel
          have hki : (k : Int) < 64 := by omega
          have hk1 : (16 : Int) ≤ (k : Int) := by omega
          have n15 : ((k : Int) - 15).toNat = k - 15 := by omega
          have n2 : ((k : Int) - 2).toNat = k - 2 := by omega
          have n16 : ((k : Int) - 16).toNat = k - 16 := by omega
          have n7 : ((k : Int) - 7).toNat = k - 7 := by omega
          have s15 : IntKind.i64.wrap ((k : Int) - 15) = (k : Int) - 15 := IntWalk.i64_in _ (by omega)
          have s2 : IntKind.i64.wrap ((k : Int) - 2) = (k : Int) - 2 := IntWalk.i64_in _ (by omega)
          have s16 : IntKind.i64.wrap ((k : Int) - 16) = (k : Int) - 16 := IntWalk.i64_in _ (by omega)
          have s7 : IntKind.i64.wrap ((k : Int) - 7) = (k : Int) - 7 := IntWalk.i64_in _ (by omega)
          have g15 : (0 : Int) ≤ (k : Int) - 15 := by omega
          have g15' : (k : Int) - 15 < 64 := by omega
          have g2 : (0 : Int) ≤ (k : Int) - 2 := by omega
          have g2' : (k : Int) - 2 < 64 := by omega
          have g16 : (0 : Int) ≤ (k : Int) - 16 := by omega
          have g16' : (k : Int) - 16 < 64 := by omega
          have g7 : (0 : Int) ≤ (k : Int) - 7 := by omega
          have g7' : (k : Int) - 7 < 64 := by omega
          clear hat r7 r18 r17 r19 hlen hws hrow hbel
          go_wp2_with fail
          go_quiet (first | (with_reducible show Calls _ _ #[_, Value.int .i64 7] _ _; exact Calls.quiet_of (H7.out _ _)) | (with_reducible show Calls _ _ #[_, Value.int .i64 18] _ _; exact Calls.quiet_of (H18.out _ _)))
          have E9 : bits .xor .u32 (bits .xor .u32 ((Sha.rotr (Sha.at_ ws (k - 15)) 7).toNat : Int) ((Sha.rotr (Sha.at_ ws (k - 15)) 18).toNat : Int)) (((Sha.at_ ws (k - 15)).toNat : Int) / 8) = ((Sha.rotr (Sha.at_ ws (k - 15)) 7 ^^^ Sha.rotr (Sha.at_ ws (k - 15)) 18 ^^^ (Sha.at_ ws (k - 15) >>> 3)).toNat : Int) := by
            have e : ((Sha.at_ ws (k - 15)).toNat : Int) / (8 : Int) = ((Sha.at_ ws (k - 15) >>> 3).toNat : Int) := by
              rw [BitVec.toNat_ushiftRight, Nat.shiftRight_eq_div_pow, Int.natCast_ediv]; rfl
            rw [e, Sha.bits_xor, Sha.bits_xor]
          have E10 : bits .xor .u32 (bits .xor .u32 ((Sha.rotr (Sha.at_ ws (k - 2)) 17).toNat : Int) ((Sha.rotr (Sha.at_ ws (k - 2)) 19).toNat : Int)) (((Sha.at_ ws (k - 2)).toNat : Int) / 1024) = ((Sha.rotr (Sha.at_ ws (k - 2)) 17 ^^^ Sha.rotr (Sha.at_ ws (k - 2)) 19 ^^^ (Sha.at_ ws (k - 2) >>> 10)).toNat : Int) := by
            have e : ((Sha.at_ ws (k - 2)).toNat : Int) / (1024 : Int) = ((Sha.at_ ws (k - 2) >>> 10).toNat : Int) := by
              rw [BitVec.toNat_ushiftRight, Nat.shiftRight_eq_div_pow, Int.natCast_ediv]; rfl
            rw [e, Sha.bits_xor, Sha.bits_xor]
          obtain ⟨S0, hS0⟩ : ∃ S0, S0 = Sha.rotr (Sha.at_ ws (k - 15)) 7 ^^^ Sha.rotr (Sha.at_ ws (k - 15)) 18 ^^^ (Sha.at_ ws (k - 15) >>> 3) := ⟨_, rfl⟩
          obtain ⟨S1, hS1⟩ : ∃ S1, S1 = Sha.rotr (Sha.at_ ws (k - 2)) 17 ^^^ Sha.rotr (Sha.at_ ws (k - 2)) 19 ^^^ (Sha.at_ ws (k - 2) >>> 10) := ⟨_, rfl⟩
          rw [← hS0] at E9
          rw [← hS1] at E10
          have HS0 := Lib.hid hS0
          have HS1 := Lib.hid hS1
          have F9 := Lib.hid E9
          have F10 := Lib.hid E10
          clear hS0 hS1 E9 E10
          go_wp2_with fail
          rw [F9.out]
          obtain ⟨V1, hV⟩ : ∃ W2, W2 = wr.drewN nq := ⟨_, rfl⟩
          have hc2 : V1.cell? ⟨w.heap.size + 1, k - 2, none⟩ = some (.int .u32 ((Sha.at_ ws (k - 2)).toNat : Int)) := by rw [hV]; exact hc2
          have hc16 : V1.cell? ⟨w.heap.size + 1, k - 16, none⟩ = some (.int .u32 ((Sha.at_ ws (k - 16)).toNat : Int)) := by rw [hV]; exact hc16
          have hc7 : V1.cell? ⟨w.heap.size + 1, k - 7, none⟩ = some (.int .u32 ((Sha.at_ ws (k - 7)).toNat : Int)) := by rw [hV]; exact hc7
          have hw1 : V1.cell? ⟨w.heap.size + 1, k, none⟩ = some (.int .u32 0) := by rw [hV]; exact hw1
          have hw2 : V1.frozen? ⟨w.heap.size + 1, k, none⟩ = false := by rw [hV]; exact hw2
          have H2 : Hid (Row (w.heap.size) (fill64 []) V1) := Lib.hid (by rw [hV]; exact H2.out.drewN nq)
          have HROW : Hid (Row (w.heap.size + 1) (fill64 ws) V1) := Lib.hid (by rw [hV]; exact HROW.out.drewN nq)
          have HBEL : Hid (Below w.heap.size w V1) := Lib.hid (by rw [hV]; exact ⟨HBEL.out.os, HBEL.out.tape, HBEL.out.output, HBEL.out.size, HBEL.out.block⟩)
          have hsz : w.heap.size + 1 < V1.heap.size := by rw [hV]; exact hsz
          rw [← hV]
          clear hV
          go_quiet (first | (with_reducible show Calls _ _ #[_, Value.int .i64 17] _ _; exact Calls.quiet_of (H17.out _ _)) | (with_reducible show Calls _ _ #[_, Value.int .i64 19] _ _; exact Calls.quiet_of (H19.out _ _)))
          go_wp2_with fail
          rw [F10.out]
          obtain ⟨V2, hV⟩ : ∃ W2, W2 = V1.drewN nq := ⟨_, rfl⟩
          have hc2 : V2.cell? ⟨w.heap.size + 1, k - 2, none⟩ = some (.int .u32 ((Sha.at_ ws (k - 2)).toNat : Int)) := by rw [hV]; exact hc2
          have hc16 : V2.cell? ⟨w.heap.size + 1, k - 16, none⟩ = some (.int .u32 ((Sha.at_ ws (k - 16)).toNat : Int)) := by rw [hV]; exact hc16
          have hc7 : V2.cell? ⟨w.heap.size + 1, k - 7, none⟩ = some (.int .u32 ((Sha.at_ ws (k - 7)).toNat : Int)) := by rw [hV]; exact hc7
          have hw1 : V2.cell? ⟨w.heap.size + 1, k, none⟩ = some (.int .u32 0) := by rw [hV]; exact hw1
          have hw2 : V2.frozen? ⟨w.heap.size + 1, k, none⟩ = false := by rw [hV]; exact hw2
          have H2 : Hid (Row (w.heap.size) (fill64 []) V2) := Lib.hid (by rw [hV]; exact H2.out.drewN nq)
          have HROW : Hid (Row (w.heap.size + 1) (fill64 ws) V2) := Lib.hid (by rw [hV]; exact HROW.out.drewN nq)
          have HBEL : Hid (Below w.heap.size w V2) := Lib.hid (by rw [hV]; exact ⟨HBEL.out.os, HBEL.out.tape, HBEL.out.output, HBEL.out.size, HBEL.out.block⟩)
          have hsz : w.heap.size + 1 < V2.heap.size := by rw [hV]; exact hsz
          rw [← hV]
          clear hV
          clear F9 F10
          go_region
          have E11 : ((((Sha.at_ ws (k - 16)).toNat : Int) + (S0.toNat : Int) + ((Sha.at_ ws (k - 7)).toNat : Int) + (S1.toNat : Int)) % 4294967296) = ((Sha.next ws).toNat : Int) := by
            have e : Sha.next ws = Sha.at_ ws (k - 16) + S0 + Sha.at_ ws (k - 7) + S1 := by
              rw [HS0.out, HS1.out]; unfold Sha.next; simp only [HLEN.out]
            rw [e]
            simp only [BitVec.toNat_add]
            omega
          rw [E11]
          clear E11
          go_wp2_with fail
          go_roundw
          case rel =>
            have hl := HLEN.out
            have hr := (HROW.out.set k (wv (Sha.next ws)) (by rw [fill64_len _ (by omega)]; omega))
            have hs := fill64_step ws (Sha.next ws) (by omega)
            rw [hl] at hs
            rw [hs] at hr
            refine ⟨k + 1, ws ++ [Sha.next ws], by go_num, by omega, by omega, by rw [List.length_append, hl]; rfl, ?_, (show Row (w.heap.size) (fill64 []) V2.drew from H2.out).far (by omega) k [_], hr, below_drew (HBEL.out.setCell (p := ⟨w.heap.size + 1, k, none⟩) (by simp) _), by simpa using hsz⟩
            rw [HWS.out, show 64 - k = (64 - (k + 1)) + 1 by omega]; rfl
          case measure => simp [intOf]; omega
        · have hk : k = 64 := by omega
          subst hk
          have e : Sha.words l = ws := by rw [hws]; rfl
          rw [fill64_full ws hlen] at hrow
          have HE := Lib.hid e
          have HW := Lib.hid hlen
          have H2 := Lib.hid hr2
          have H3 := Lib.hid hrow
          have HB := Lib.hid hbel
          clear hlen hws hr2 hrow hbel e
          have I := Lib.hid (show (Tryd.prog.info? 102).map (·.size) = some (ws.map wv).length by rw [List.length_map, HW.out]; kernel_rfl)
          have I2 := Lib.hid (show (Tryd.prog.info? 102).map (·.size) = some (ws.map wv).toArray.size by rw [List.size_toArray, List.length_map, HW.out]; kernel_rfl)
          have T2 := Lib.hid (H2.out.there 0 (ws.map wv).toArray.size (by rw [List.size_toArray, List.length_map, HW.out, fill64_len _ (by simp)]; omega))
          have O1 := Lib.hid (all_oneCell_toArray (cs := ws.map wv) (fun v hv => by obtain ⟨x, _, rfl⟩ := List.mem_map.1 hv; rfl))
          go_wp2_with (first | (with_reducible refine wpList_load_mid rfl 102 (.tmp 3) rfl (w.heap.size + 1) 0 rfl (ws.map wv) _ H3.out.range Tryd.underlying102 rfl I.out ?_) | (with_reducible refine wpList_store_mid rfl 102 (.tmp 2) (.tmp 100) rfl (w.heap.size) 0 (ws.map wv).toArray rfl rfl T2.out I2.out O1.out ?_))
          have HR := Lib.hid ((World.rangeAt_setCells_same wr (w.heap.size) 0 (ws.map wv).toArray.toList (by simpa using T2.out)))
          have HBB := Lib.hid (below_setCells (b := w.heap.size) (Nat.le_refl _) (ws.map wv).toArray.toList 0 w wr HB.out)
          refine bodyPost_ret (results_cell_mid rfl _ _ _ (w.heap.size) 0 (ws.map wv) _ rfl HR.out Tryd.underlying102 rfl I.out) rfl ?_
          exact ⟨by rw [HE.out], HBB.out⟩

end Go.Proofs.YtdbdlhgkhnenfaaDoor
/-
  The table of the specification of package hash.
-/
namespace Go.Proofs.YtdbdlhgkhnenfaaDoor
open Go.RowKit

/-- the specification's table lies as it was laid -/
def TabR (w : World) : Prop := w.rangeAt 1 0 (Sha.consts.map Sha.wv)
theorem TabR.below {w w' : World} (h : TabR w) (hb : Below w.heap.size w w') : TabR w' :=
  fun j v hj => (hb.cell (World.block_lt_of_cell? w _ (h j v hj))).trans (h j v hj)

end Go.Proofs.YtdbdlhgkhnenfaaDoor
/-
  Contracts of voxelref02: a message is padded.
-/
namespace Go.Proofs.YtdbdlhgkhnenfaaDoor
open Go.RowKit

def sliceLen : Value → Nat
  | .slice _ n _ => n
  | _ => 0
/-- the post of padded -/
def PadP (l : List UInt8) (w : World) (e : Ending) (w' : World) : Prop :=
  ∃ v, e = .returned v ∧ w'.ownsRow w.heap.size 5 1 v (Sha.padded l).length ((Sha.padded l).map bv) ∧ Below w.heap.size w w'

set_option maxRecDepth 1000000 in
set_option maxHeartbeats 1000000 in
theorem hrPadded_any (l : List UInt8) (A : Option Addr) (n c : Nat) (w : World) (hn : l.length = n) (hl : Lies w A (l.map bv)) (hb : n ≤ 1099511627776) :
    Calls Tryd.prog 77 #[.slice A n c] w (PadP l w) := by
  obtain ⟨i0, hi, hz0, hz1, hz2⟩ := info_parts Tryd.infoU8
  have hsrc := src_own (c := c) hn (hl.alloc (.cells #[] 5))
  have own0 : (w.alloc (.cells #[] 5)).ownsRow w.heap.size 5 1 (.slice (some ⟨w.heap.size, 0, none⟩) 0 0) 0 [] :=
    ⟨rfl, .inr ⟨w.heap.size, 0, #[], rfl, Nat.le_refl _, heap_alloc_new w _, Nat.le_refl _, by unfold maxLen; omega, rfl, rfl⟩⟩
  have HN := Lib.hid hn
  clear hn hl
  go_enter Tryd.func77, Tryd.ntmps77
  go_wp2_with (at_builtin; go_loud (refine wpList_append_onto_src (w.alloc (.cells #[] 5)) rfl _ _ 43 43 rfl w.heap.size 5 i0 (.int .u8 0) 1 1 Tryd.underlying43 hi hz0 hz1 hz2 rfl _ _ _ own0 (.slice A n c) n (l.map bv) hsrc rfl rfl ?c1 ?c2 ?c3 ?_))
  case c1 => unfold maxLen; omega
  case c2 => omega
  case c3 => simp
  intro v1 w1 own1 b1
  have B1 := Lib.hid (((Below.refl w.heap.size w).alloc (Nat.le_refl _) (.cells #[] 5)).trans b1)
  have hsz1 := B1.out.size
  clear b1 own0 hsrc
  go_wp2_with (at_builtin; go_loud (refine wpList_append_one w1 rfl _ _ 43 rfl w.heap.size 5 i0 (.int .u8 0) 1 Tryd.underlying43 hi hz0 hz1 hz2 rfl _ _ _ own1 (.int .u8 128) rfl rfl rfl ?d1 ?d2 ?d3 ?_))
  case d1 => unfold maxLen; omega
  case d2 => omega
  case d3 => exact hsz1
  intro v2 w2 own2 b2
  have e2 : l.map bv ++ [Value.int .u8 128] = (l ++ [128] ++ List.replicate 0 0).map bv := by simp [bv]
  rw [e2] at own2
  have O2 := Lib.hid own2
  have B2 := Lib.hid (B1.out.trans b2)
  clear own1 own2 b2 B1 e2
  obtain ⟨A2, c2, rfl, hnc2, _, _⟩ := own_shape O2.out
  go_wp2_with fail
  go_loopw [3] (fun v wr => ∃ (j : Nat) (A' : Option Addr) (c' : Nat), v = .slice A' (n + 1 + j) c' ∧ j ≤ Sha.zeros n ∧ wr.ownsRow w.heap.size 5 1 (.slice A' (n + 1 + j) c') (n + 1 + j) ((l ++ [128] ++ List.replicate j 0).map bv) ∧ Below w.heap.size w wr) (fun v _ => n + 1 + Sha.zeros n - sliceLen v)
  case atStart => exact ⟨0, A2, c2, rfl, by omega, O2.out, B2.out⟩
  case round =>
    obtain ⟨j, A', c', rfl, hj, hown, hb'⟩ := hrel
    have hsz := hb'.size
    have hzd : Sha.zeros n = (119 - n % 64) % 64 := rfl
    by_cases hlt : j < Sha.zeros n
    · have ht : ((((n : Int) + 1 + (j : Int)) % 64) != 56) = true := by simp; omega
      have HB := Lib.hid hb'
      have HZ := Lib.hid hzd
      generalize hX : l ++ [128] ++ List.replicate j 0 = X at hown
      have HX := Lib.hid hX
      clear hb' hzd hX
      go_wp2_with (at_builtin; go_loud (refine wpList_append_one wr rfl _ _ 43 rfl w.heap.size 5 i0 (.int .u8 0) 1 Tryd.underlying43 hi hz0 hz1 hz2 rfl _ _ _ hown (.int .u8 0) rfl rfl rfl ?f1 ?f2 ?f3 ?_))
      case f1 => have := HZ.out; unfold maxLen; omega
      case f2 => have := HZ.out; omega
      case f3 => exact hsz
      intro v3 w3 own3 b3
      have e3 : X.map bv ++ [Value.int .u8 0] = (l ++ [128] ++ List.replicate (j + 1) 0).map bv := by
        rw [List.replicate_succ', ← List.append_assoc, HX.out, List.map_append (l₂ := [0])]; rfl
      rw [e3] at own3
      obtain ⟨A3, c3, rfl, _, _, _⟩ := own_shape own3
      have HO := Lib.hid own3
      have HB3 := Lib.hid (HB.out.trans b3)
      clear own3 b3 hown e3 HZ ht
      go_wp2_with fail
      first
        | exact ⟨⟨j + 1, A3, c3, rfl, by omega, HO.out, HB3.out⟩, by simp [sliceLen]; omega⟩
        | (go_roundw
           case rel => exact ⟨j + 1, A3, c3, rfl, by omega, HO.out, HB3.out⟩
           case measure => simp [sliceLen]; omega)
    · have hj2 : j = Sha.zeros n := by omega
      have ht : ((((n : Int) + 1 + (j : Int)) % 64) != 56) = false := by simp; omega
      have htot : n + 1 + j ≤ n + 64 := by omega
      have HJ := Lib.hid hj2
      have HB := Lib.hid hb'
      clear hb' hzd hj2
      go_wp2_with fail
      go_loopw [3, 5] (fun v i wr => ∃ (k : Nat) (A' : Option Addr) (c' : Nat), i = .int .i64 (k : Int) ∧ k ≤ 8 ∧ v = .slice A' (n + 1 + j + k) c' ∧ wr.ownsRow w.heap.size 5 1 (.slice A' (n + 1 + j + k) c') (n + 1 + j + k) ((l ++ [128] ++ List.replicate j 0 ++ (Sha.len8 n).take k).map bv) ∧ Below w.heap.size w wr) (fun _ i _ => 8 - (intOf i).toNat)
      case atStart => exact ⟨0, A', c', rfl, by omega, rfl, by simpa using hown, HB.out⟩
      case round =>
        obtain ⟨k, A4, c4, rfl, hk, rfl, hown4, hb4⟩ := hrel
        have hsz4 := hb4.size
        by_cases hlt2 : k < 8
        · have HB4 := Lib.hid hb4
          have hst : (Sha.len8 n).take (k + 1) = (Sha.len8 n).take k ++ [UInt8.ofNat (8 * n / 2 ^ (56 - 8 * k))] := by
            rw [List.take_succ_eq_append_getElem (by rw [Sha.len8_len]; exact hlt2)]
            simp [Sha.len8]
          generalize hX : l ++ [128] ++ List.replicate j 0 ++ (Sha.len8 n).take k = X at hown4
          have HX := Lib.hid (show l ++ [128] ++ List.replicate j 0 ++ (Sha.len8 n).take (k + 1) = X ++ [UInt8.ofNat (8 * n / 2 ^ (56 - 8 * k))] by rw [hst, ← hX, ← List.append_assoc])
          have hu : (UInt8.ofNat (8 * n / 2 ^ (56 - 8 * k))).toNat = 8 * n / 2 ^ (56 - 8 * k) % 256 := by simp
          have HU := Lib.hid (show bv (UInt8.ofNat (8 * n / 2 ^ (56 - 8 * k))) = .int .u8 ((8 * (n : Int)) / 2 ^ (56 - 8 * k) % 256) by
            unfold bv; rw [hu]; congr 1)
          clear hb4 hX hst hu HJ
          have hki : (k : Int) < 8 := by omega
          have hs1 : (0 : Int) ≤ 56 - 8 * (k : Int) := by omega
          have hs2 : (56 - 8 * (k : Int)).toNat = 56 - 8 * k := by omega
          go_wp2_with (at_builtin; go_loud (refine wpList_append_one wr rfl _ _ 43 rfl w.heap.size 5 i0 (.int .u8 0) 1 Tryd.underlying43 hi hz0 hz1 hz2 rfl _ _ _ hown4 _ rfl rfl rfl ?g1 ?g2 ?g3 ?_))
          case g1 => unfold maxLen; omega
          case g2 => omega
          case g3 => exact hsz4
          intro v5 w5 own5 b5
          have e5 : X.map bv ++ [Value.int .u8 (8 * (n : Int) / 2 ^ (56 - 8 * k) % 256)] = (l ++ [128] ++ List.replicate j 0 ++ (Sha.len8 n).take (k + 1)).map bv := by
            rw [HX.out, List.map_append, List.map_cons, List.map_nil, HU.out]
          rw [e5] at own5
          obtain ⟨A5, c5, rfl, _, _, _⟩ := own_shape own5
          have HO := Lib.hid own5
          have HB5 := Lib.hid (HB4.out.trans b5)
          clear own5 b5 hown4 e5 hs1 hs2
          go_wp2_with fail
          first
            | exact ⟨⟨k + 1, A5, c5, by go_num, by omega, rfl, HO.out, HB5.out⟩, by simp [intOf]; omega⟩
            | (go_roundw
               case rel => exact ⟨k + 1, A5, c5, by go_num, by omega, rfl, HO.out, HB5.out⟩
               case measure => simp [intOf]; omega)
        · have hk8 : k = 8 := by omega
          subst hk8
          have e : l ++ [128] ++ List.replicate j 0 ++ (Sha.len8 n).take 8 = Sha.padded l := by
            rw [List.take_of_length_le (by rw [Sha.len8_len]; omega), Sha.padded_eq, HN.out, HJ.out]; simp
          have e2 : n + 1 + j + 8 = (Sha.padded l).length := by
            rw [← e, List.length_append, List.length_append, List.length_append, List.length_take, Sha.len8_len, HN.out]; simp
          rw [e, e2] at hown4
          have HO := Lib.hid hown4
          have HB4 := Lib.hid hb4
          have HE2 := Lib.hid e2
          clear hown4 hb4 e e2
          go_wp2_with fail
          go_ret
          exact ⟨.slice A4 (n + 1 + j + 8) c4, rfl, by rw [HE2.out]; exact HO.out, HB4.out⟩

end Go.Proofs.YtdbdlhgkhnenfaaDoor
