/-
  Contracts of voxelref02: the hash.
-/
import Derived.Test.YtdbdlhgkhnenfaaDoorGh
import Derived.Test.YtdbdlhgkhnenfaaDoorGe
import Derived.Deep.DeepCutAuto
import Derived.Deep.QuietTactic
import Derived.BigQuiet
import Derived.BigRegion
namespace Go.Proofs.YtdbdlhgkhnenfaaDoor
open Go.RowKit
open Sha (wv)

theorem wpList_store_new_at {P : Program} (w : World) {ops : Array Oper} {rest : List Oper} {op : Oper} {a : Act} {Q : Exit → Act → World → Prop} (hgd : op.guard = none) (t : TypeId) (x y : Operand) (ho : op.op = .store t x y)
    (g : Nat) (hg : g = w.heap.size) (c c' : Array Value) (hx : a.eval x = .pointer (some ⟨g, 0, none⟩)) (hy : a.eval y = .agg c')
    (hi : (P.info? t).map (·.size) = some c'.size) (hc : c.size = c'.size) (h1 : c'.all (·.oneCell') = true)
    (h : wpList P ops Q rest (a.put op.dst undef) (w.alloc (.cells c' t))) : wpList P ops Q (op :: rest) a (w.alloc (.cells c t)) := by
  subst hg
  exact wpList_store_new w hgd t x y ho c c' hx hy hi hc h1 h

theorem TabR.const {w : World} (h : TabR w) (k : Nat) (hk : k < 64) : w.cell? ⟨1, k, none⟩ = some (.int .u32 ((Sha.at_ Sha.consts k).toNat : Int)) := by
  have h1 := h k (wv (Sha.at_ Sha.consts k)) (by
    have hl : Sha.consts.length = 64 := rfl
    unfold Sha.at_
    rw [List.getElem?_map, List.getD_eq_getElem?_getD, List.getElem?_eq_getElem (by omega)]; rfl)
  rw [Nat.zero_add] at h1
  exact h1

theorem xor_ones (x : BitVec 32) : bits .xor .u32 (x.toNat : Int) 4294967295 = ((x ^^^ 0xffffffff).toNat : Int) := by
  have e : (4294967295 : Int) = (((0xffffffff : BitVec 32).toNat : Nat) : Int) := by decide
  rw [e, Sha.bits_xor]
theorem refE_int (v : Sha.St) (k w : BitVec 32) :
    (((v.h.toNat : Int) + bits .xor .u32 (bits .xor .u32 ((Sha.rotr v.e 6).toNat : Int) ((Sha.rotr v.e 11).toNat : Int)) ((Sha.rotr v.e 25).toNat : Int) + bits .xor .u32 (bits .and .u32 (v.e.toNat : Int) (v.f.toNat : Int)) (bits .and .u32 (bits .xor .u32 (v.e.toNat : Int) 4294967295) (v.g.toNat : Int)) + (k.toNat : Int)) % 4294967296 + (w.toNat : Int)) % 4294967296
      = ((Sha.mixE v k w).toNat : Int) := by
  rw [xor_ones, Sha.bits_and, Sha.bits_and, Sha.bits_xor, Sha.bits_xor, Sha.bits_xor]
  unfold Sha.mixE
  generalize Sha.rotr v.e 6 ^^^ Sha.rotr v.e 11 ^^^ Sha.rotr v.e 25 = y
  generalize (v.e &&& v.f) ^^^ ((v.e ^^^ 0xffffffff) &&& v.g) = z
  simp only [BitVec.toNat_add]
  omega
theorem refA_int (v : Sha.St) :
    (bits .xor .u32 (bits .xor .u32 ((Sha.rotr v.a 2).toNat : Int) ((Sha.rotr v.a 13).toNat : Int)) ((Sha.rotr v.a 22).toNat : Int) + bits .xor .u32 (bits .xor .u32 (bits .and .u32 (v.a.toNat : Int) (v.b.toNat : Int)) (bits .and .u32 (v.a.toNat : Int) (v.c.toNat : Int))) (bits .and .u32 (v.b.toNat : Int) (v.c.toNat : Int))) % 4294967296
      = ((Sha.mixA v).toNat : Int) := by
  rw [Sha.bits_and, Sha.bits_and, Sha.bits_and, Sha.bits_xor, Sha.bits_xor, Sha.bits_xor, Sha.bits_xor, add_u32]
  rfl

/-- the memory of the specification's hash between two blocks -/
structure RefM (w : World) (v : Sha.St) (A : Option Addr) (m : List UInt8) (wr : World) : Prop where
  st : Row (w.heap.size + 1) v.cells.toList wr
  res : Row w.heap.size (fill32 []) wr
  msg : Lies wr A (m.map bv)
  tab : TabR wr
  below : Below w.heap.size w wr
theorem own_base {w : World} {B : Nat} {e : TypeId} {size b o n' c n : Nat} {xs : List Value} (h : w.ownsRow B e size (.slice (some ⟨b, o, none⟩) n' c) n xs) : B ≤ b := by
  rcases h.2 with ⟨h1, _⟩ | ⟨g, cap, cur, hv, hg, _⟩
  · cases h1
  · cases hv; exact hg
/-- the memory while the value is added: all but the value -/
structure RefN (w : World) (A : Option Addr) (m : List UInt8) (wr : World) : Prop where
  res : Row w.heap.size (fill32 []) wr
  msg : Lies wr A (m.map bv)
  tab : TabR wr
  below : Below w.heap.size w wr
theorem RefN.store {w : World} {A : Option Addr} {m : List UInt8} {wr : World} (h : RefN w A m wr) (o : Nat) (v : Value) (hA : ∀ b o, A = some ⟨b, o, none⟩ → b ≠ w.heap.size + 1) (ht : 1 < w.heap.size) : RefN w A m (wr.setCell ⟨w.heap.size + 1, o, none⟩ v) := by
  refine ⟨h.res.far (b := w.heap.size + 1) (by omega) o [v], ?_, fun j x hj => ?_, h.below.setCell (p := ⟨w.heap.size + 1, o, none⟩) (by simp) v⟩
  · rcases h.msg with h' | ⟨b, o', rfl, hc⟩
    · exact .inl h'
    · refine .inr ⟨b, o', rfl, fun j u hu => ?_⟩
      exact (World.cell?_setCell_other _ _ _ _ (by intro e; cases e; exact hA _ _ rfl rfl)).trans (hc j u hu)
  · exact (World.cell?_setCell_other _ _ _ _ (fun e => by have h2 : w.heap.size + 1 = 1 := congrArg Addr.block e; omega)).trans (h.tab j x hj)
theorem RefN.drew {w : World} {A : Option Addr} {m : List UInt8} {wr : World} (h : RefN w A m wr) : RefN w A m wr.drew := ⟨h.res, h.msg, h.tab, below_drew h.below⟩
/-- the words so far added -/
def adds (v s : Sha.St) (i : Nat) : List Value := (v.add s).cells.toList.take i ++ v.cells.toList.drop i
theorem adds_at (v s : Sha.St) (i : Nat) (h : i < 8) : (adds v s i)[i]? = some (.int .u32 ((v.toList.getD i 0).toNat : Int)) := by
  match i, h with
  | 0, _ => rfl
  | 1, _ => rfl
  | 2, _ => rfl
  | 3, _ => rfl
  | 4, _ => rfl
  | 5, _ => rfl
  | 6, _ => rfl
  | 7, _ => rfl
theorem cells_at (s : Sha.St) (i : Nat) (h : i < 8) : s.cells.toList[i]? = some (.int .u32 ((s.toList.getD i 0).toNat : Int)) := by
  match i, h with
  | 0, _ => rfl
  | 1, _ => rfl
  | 2, _ => rfl
  | 3, _ => rfl
  | 4, _ => rfl
  | 5, _ => rfl
  | 6, _ => rfl
  | 7, _ => rfl
theorem adds_step (v s : Sha.St) (i : Nat) (h : i < 8) : (adds v s i).set i (wv (v.toList.getD i 0 + s.toList.getD i 0)) = adds v s (i + 1) := by
  match i, h with
  | 0, _ => rfl
  | 1, _ => rfl
  | 2, _ => rfl
  | 3, _ => rfl
  | 4, _ => rfl
  | 5, _ => rfl
  | 6, _ => rfl
  | 7, _ => rfl
theorem adds_len (v s : Sha.St) (i : Nat) (h : i ≤ 8) : (adds v s i).length = 8 := by
  unfold adds
  rw [List.length_append, List.length_take, List.length_drop, cells_len, cells_len]; omega
theorem out_byte (f : Sha.St) (i : Nat) (h : i < 32) : f.out.getD i 0 = UInt8.ofNat ((f.toList.getD (i / 4) 0) >>> (24 - 8 * (i % 4))).toNat := by
  match i, h with
  | 0, _ => rfl
  | 1, _ => rfl
  | 2, _ => rfl
  | 3, _ => simp [Sha.St.out, Sha.St.toList, Sha.bytesOf]
  | 4, _ => rfl
  | 5, _ => rfl
  | 6, _ => rfl
  | 7, _ => simp [Sha.St.out, Sha.St.toList, Sha.bytesOf]
  | 8, _ => rfl
  | 9, _ => rfl
  | 10, _ => rfl
  | 11, _ => simp [Sha.St.out, Sha.St.toList, Sha.bytesOf]
  | 12, _ => rfl
  | 13, _ => rfl
  | 14, _ => rfl
  | 15, _ => simp [Sha.St.out, Sha.St.toList, Sha.bytesOf]
  | 16, _ => rfl
  | 17, _ => rfl
  | 18, _ => rfl
  | 19, _ => simp [Sha.St.out, Sha.St.toList, Sha.bytesOf]
  | 20, _ => rfl
  | 21, _ => rfl
  | 22, _ => rfl
  | 23, _ => simp [Sha.St.out, Sha.St.toList, Sha.bytesOf]
  | 24, _ => rfl
  | 25, _ => rfl
  | 26, _ => rfl
  | 27, _ => simp [Sha.St.out, Sha.St.toList, Sha.bytesOf]
  | 28, _ => rfl
  | 29, _ => rfl
  | 30, _ => rfl
  | 31, _ => simp [Sha.St.out, Sha.St.toList, Sha.bytesOf]
  | n + 32, h => omega
theorem RefM.drewN {w : World} {v : Sha.St} {A : Option Addr} {m : List UInt8} {wr : World} (h : RefM w v A m wr) (q : Nat) : RefM w v A m (wr.drewN q) :=
  ⟨h.st.drewN q, h.res.drewN q, h.msg, h.tab, below_drewN h.below q⟩
theorem RefM.store {w : World} {v : Sha.St} {A : Option Addr} {m : List UInt8} {wr : World} (h : RefM w v A m wr) (g : Nat) (hg : w.heap.size + 1 < g) (o : Nat) (vs : List Value) (hA : ∀ b o, A = some ⟨b, o, none⟩ → b ≠ g) (ht : 1 < w.heap.size) : RefM w v A m (wr.setCells g o vs) := by
  refine ⟨h.st.far (by omega) o vs, h.res.far (by omega) o vs, ?_, fun j x hj => ?_, below_setCells (by omega) vs o w wr h.below⟩
  · rcases h.msg with h' | ⟨b, o', rfl, hc⟩
    · exact .inl h'
    · refine .inr ⟨b, o', rfl, fun j u hu => ?_⟩
      rw [World.cell?_setCells_out g vs o wr ⟨b, o' + j, none⟩ (fun hb _ => absurd hb (hA b o' rfl))]
      exact hc j u hu
  · rw [World.cell?_setCells_out g vs o wr _ (fun hb _ => by exact absurd hb (by show 1 ≠ g; omega))]
    exact h.tab j x hj
theorem RefM.next {w : World} {v : Sha.St} {A : Option Addr} {m : List UInt8} {wr w' : World} (h : RefM w v A m wr) (hb : Below wr.heap.size wr w') : RefM w v A m w' :=
  ⟨h.st.below hb, h.res.below hb, h.msg.below hb, h.tab.below hb, h.below.trans (hb.mono h.below.size)⟩

set_option maxRecDepth 1000000 in
set_option maxHeartbeats 2000000 in
theorem hrSum_any (l : List UInt8) (A : Option Addr) (n c : Nat) (w : World) (hn : l.length = n) (hl : Lies w A (l.map bv)) (hb : n ≤ 1000000000) (hR : TabR w) :
    Calls Tryd.prog 70 #[.slice A n c] w fun e w' => e = .returned (.agg ((Sha.sum Sha.consts l).map bv).toArray) ∧ Below w.heap.size w w' := by
  have CP := Lib.hid (fun (W : World) (hb2 : Below w.heap.size w W) => hrPadded_any l A n c W hn (hl.below hb2) (by omega))
  have hpl := Sha.padded_len l
  have hpb : (Sha.padded l).length ≤ n + 136 := by
    rw [Sha.padded_eq]; simp only [List.length_append, List.length_cons, List.length_replicate, Sha.len8_len]; unfold Sha.zeros; omega
  have hpp : 64 ≤ (Sha.padded l).length := by
    have h : 0 < (Sha.padded l).length := by rw [Sha.padded_eq]; simp; omega
    omega
  obtain ⟨out, ho⟩ : ∃ x, x = Sha.sum Sha.consts l := ⟨_, rfl⟩
  rw [← ho]
  have hos : out = (Sha.hashed Sha.consts (Sha.padded l) ((Sha.padded l).length / 64)).out := ho
  unfold PadP at CP
  generalize Sha.padded l = m at CP hpl hpb hpp hos
  have HOS := Lib.hid hos
  have HR := Lib.hid hR
  have hG0 : 1 < w.heap.size := World.block_lt_of_cell? w _ (hR 0 _ rfl)
  clear ho hos hn hl hR
  have J8 := Lib.hid (show (Tryd.prog.info? 87).map (·.size) = some Sha.first.cells.size by kernel_rfl)
  have O8 := Lib.hid (show Sha.first.cells.all (·.oneCell') = true by simp [Sha.St.cells, Value.oneCell'])
  go_enter Tryd.func70, Tryd.ntmps70
  go_upto_region 1 with fail
  obtain ⟨q1, q3⟩ : Row w.heap.size (fill32 []) (w.alloc (.cells #[Value.int .u8 0, Value.int .u8 0, Value.int .u8 0, Value.int .u8 0, Value.int .u8 0, Value.int .u8 0, Value.int .u8 0, Value.int .u8 0, Value.int .u8 0, Value.int .u8 0, Value.int .u8 0, Value.int .u8 0, Value.int .u8 0, Value.int .u8 0, Value.int .u8 0, Value.int .u8 0, Value.int .u8 0, Value.int .u8 0, Value.int .u8 0, Value.int .u8 0, Value.int .u8 0, Value.int .u8 0, Value.int .u8 0, Value.int .u8 0, Value.int .u8 0, Value.int .u8 0, Value.int .u8 0, Value.int .u8 0, Value.int .u8 0, Value.int .u8 0, Value.int .u8 0, Value.int .u8 0] 76)) ∧ Below w.heap.size w (w.alloc (.cells #[Value.int .u8 0, Value.int .u8 0, Value.int .u8 0, Value.int .u8 0, Value.int .u8 0, Value.int .u8 0, Value.int .u8 0, Value.int .u8 0, Value.int .u8 0, Value.int .u8 0, Value.int .u8 0, Value.int .u8 0, Value.int .u8 0, Value.int .u8 0, Value.int .u8 0, Value.int .u8 0, Value.int .u8 0, Value.int .u8 0, Value.int .u8 0, Value.int .u8 0, Value.int .u8 0, Value.int .u8 0, Value.int .u8 0, Value.int .u8 0, Value.int .u8 0, Value.int .u8 0, Value.int .u8 0, Value.int .u8 0, Value.int .u8 0, Value.int .u8 0, Value.int .u8 0, Value.int .u8 0] 76)) :=
    ⟨Row.new w #[Value.int .u8 0, Value.int .u8 0, Value.int .u8 0, Value.int .u8 0, Value.int .u8 0, Value.int .u8 0, Value.int .u8 0, Value.int .u8 0, Value.int .u8 0, Value.int .u8 0, Value.int .u8 0, Value.int .u8 0, Value.int .u8 0, Value.int .u8 0, Value.int .u8 0, Value.int .u8 0, Value.int .u8 0, Value.int .u8 0, Value.int .u8 0, Value.int .u8 0, Value.int .u8 0, Value.int .u8 0, Value.int .u8 0, Value.int .u8 0, Value.int .u8 0, Value.int .u8 0, Value.int .u8 0, Value.int .u8 0, Value.int .u8 0, Value.int .u8 0, Value.int .u8 0, Value.int .u8 0] 76, (Below.refl _ _).alloc (Nat.le_refl _) _⟩
  obtain ⟨U, hU⟩ : ∃ W, W = w.alloc (.cells #[Value.int .u8 0, Value.int .u8 0, Value.int .u8 0, Value.int .u8 0, Value.int .u8 0, Value.int .u8 0, Value.int .u8 0, Value.int .u8 0, Value.int .u8 0, Value.int .u8 0, Value.int .u8 0, Value.int .u8 0, Value.int .u8 0, Value.int .u8 0, Value.int .u8 0, Value.int .u8 0, Value.int .u8 0, Value.int .u8 0, Value.int .u8 0, Value.int .u8 0, Value.int .u8 0, Value.int .u8 0, Value.int .u8 0, Value.int .u8 0, Value.int .u8 0, Value.int .u8 0, Value.int .u8 0, Value.int .u8 0, Value.int .u8 0, Value.int .u8 0, Value.int .u8 0, Value.int .u8 0] 76) := ⟨_, rfl⟩
  have hsz : w.heap.size + 1 = U.heap.size := by rw [hU]; simp
  rw [← hU] at q1 q3 ⊢
  clear hU
  go_upto_region 2 with (first | (with_reducible refine wpList_buildTo rfl 87 _ rfl _ rfl Sha.first.cells (by kernel_rfl) ?_) | (with_reducible refine wpList_store_new U rfl 87 (.tmp 3) (.tmp 14) rfl _ Sha.first.cells rfl rfl J8.out (by kernel_rfl) O8.out ?_))
  go_frame
  have q2 := Row.new U Sha.first.cells 87
  rw [← hsz] at q2
  have q1' := q1.alloc (.cells Sha.first.cells 87)
  have q3' := q3.alloc q3.size (.cells Sha.first.cells 87)
  have hU2s : (U.alloc (.cells Sha.first.cells 87)).heap.size = w.heap.size + 2 := by simp; omega
  obtain ⟨U2, hU2⟩ : ∃ W, W = U.alloc (.cells Sha.first.cells 87) := ⟨_, rfl⟩
  rw [← hU2] at q1' q2 q3' hU2s ⊢
  rw [← hsz]
  have HQ1 := Lib.hid q1'
  have HQ2 := Lib.hid q2
  have HQ3 := Lib.hid q3'
  clear q1 q3 q1' q2 q3' hU2 hsz J8 O8
  go_wp2_with fail
  refine (CP.out U2 HQ3.out).mono ?_
  rintro e w1 ⟨vp, rfl, ownp, bp⟩
  obtain ⟨Ap, cp, rfl, hcp1, hcp2, lp⟩ := own_shape ownp
  have M0 : Hid (RefM w Sha.first Ap m w1) := Lib.hid ⟨HQ2.out.below bp, HQ1.out.below bp, lp, HR.out.below (HQ3.out.trans (bp.mono HQ3.out.size)), HQ3.out.trans (bp.mono HQ3.out.size)⟩
  have hA : ∃ b o, Ap = some ⟨b, o, none⟩ := by
    obtain ⟨b, o, h, _⟩ := lp.at_ (by intro h; have h2 := congrArg List.length h; rw [List.length_map, List.length_nil] at h2; omega)
    exact ⟨b, o, h⟩
  obtain ⟨b, o, rfl⟩ := hA
  have hbB : w.heap.size + 1 < b := by have h := own_base ownp; rw [hU2s] at h; omega
  obtain ⟨N, hN⟩ : ∃ N, N = m.length / 64 := ⟨_, rfl⟩
  have hmN : m.length = 64 * N := by omega
  rw [← hN] at HOS
  have HMN := Lib.hid hmN
  rw [hmN] at hcp1 hpb hpp
  rw [hmN]
  clear ownp lp bp HQ1 HQ2 HQ3 CP hpl hmN hN
  unfold maxLen at hcp2
  go_wp2_with fail
  go_loopw [5] (fun i wr => ∃ k : Nat, i = .int .i64 (((64 * k : Nat)) : Int) ∧ k ≤ N ∧ RefM w (Sha.hashed Sha.consts m k) (some ⟨b, o, none⟩) m wr) (fun i _ => 64 * N - (intOf i).toNat)
  case atStart => exact ⟨0, rfl, by omega, M0.out⟩
  case round =>
    obtain ⟨k, rfl, hk, hM⟩ := hrel
    by_cases hlt : k < N
    · obtain ⟨blk, hblk⟩ : ∃ x, x = (m.drop (64 * k)).take 64 := ⟨_, rfl⟩
      have hbl : blk.length = 64 := by rw [hblk, List.length_take, List.length_drop, HMN.out]; omega
      have hlb : Lies wr (some ⟨b, o + 64 * k, none⟩) (blk.map bv) := by
        rw [hblk, List.map_take, List.map_drop]; exact (hM.msg.drop (64 * k)).take 64
      have hst : Sha.hashed Sha.consts m (k + 1) = Sha.block Sha.consts blk (Sha.hashed Sha.consts m k) := by rw [Sha.hashed, hblk]
      generalize Sha.hashed Sha.consts m k = v at hM hst
      have HST := Lib.hid hst
      have CW := Lib.hid (hrWords_any blk b (o + 64 * k) (cp - 64 * k) wr hbl hlb)
      have hwl := words_len blk
      have hrun : Sha.block Sha.consts blk v = v.add (Sha.runs Sha.consts (Sha.words blk) v 64) := rfl
      rw [hrun] at hst
      generalize Sha.words blk = ws at CW hwl hst
      have HST := Lib.hid hst
      have HM := Lib.hid hM
      have hne : ¬ cp = 64 * k := by omega
      have hcpI : ((64 * k : Nat) : Int) + 64 ≤ (cp : Int) := by omega
      have hltI : ((64 * k : Nat) : Int) < ((64 * N : Nat) : Int) := by omega
      have I3 := Lib.hid (show (Tryd.prog.info? 102).map (·.size) = some (ws.map wv).toArray.size by rw [List.size_toArray, List.length_map, hwl]; kernel_rfl)
      have O3 := Lib.hid (all_oneCell_toArray (cs := ws.map wv) (fun v hv => by obtain ⟨x, _, rfl⟩ := List.mem_map.1 hv; rfl))
      have S3 := Lib.hid (show (ws.map wv).toArray.size = 64 by rw [List.size_toArray, List.length_map, hwl])
      have HWL := Lib.hid hwl
      clear hst hrun hM hbl hlb hblk hwl M0
      go_wp2_with fail
      refine CW.out.mono ?_
      rintro e w2 ⟨rfl, h2⟩
      have M2 := HM.out.next h2
      have M3 := M2.next ((Below.refl _ _).alloc (Nat.le_refl _) (.cells (ws.map wv).toArray 102))
      have Q6 := Row.newl w2 (ws.map wv) 102
      have RG := Lib.hid M3.st.range
      have I8 := Lib.hid (show (Tryd.prog.info? 87).map (·.size) = some v.cells.toList.length by kernel_rfl)
      have J8 := Lib.hid (show (Tryd.prog.info? 87).map (·.size) = some v.cells.size by kernel_rfl)
      have O8 := Lib.hid (show v.cells.all (·.oneCell') = true by simp [Sha.St.cells, Value.oneCell'])
      have hbg : b < w2.heap.size := by
        obtain ⟨b0, o0, h0, hc0⟩ := M2.msg.at_ (by intro h; have h2 := congrArg List.length h; rw [List.length_map, List.length_nil, HMN.out] at h2; omega)
        cases h0
        exact World.block_lt_of_cell? w2 _ (hc0 0 _ (List.getElem?_eq_getElem (by rw [List.length_map, HMN.out]; omega)))
      have HM3 := Lib.hid M3
      have HQ6 := Lib.hid Q6
      clear h2 M2 M3 Q6 CW HM
      go_upto_region 8 with (first | (with_reducible refine wpList_store_new w2 rfl 102 (.tmp 6) (.tmp 28) rfl _ (ws.map wv).toArray rfl rfl I3.out (Eq.trans (b := 64) (by kernel_rfl) S3.out.symm) O3.out ?_) | (with_reducible refine wpList_load_mid rfl 87 (.tmp 3) rfl (w.heap.size + 1) 0 rfl v.cells.toList _ RG.out Tryd.underlying87 rfl I8.out ?_) | (with_reducible refine wpList_store_new_at (w2.alloc (.cells (ws.map wv).toArray 102)) rfl 87 (.tmp 7) (.tmp 29) rfl (w2.heap.size + 1) (by simp) _ v.cells rfl rfl J8.out (by kernel_rfl) O8.out ?_))
      go_frame
      have M4 := HM3.out.next ((Below.refl _ _).alloc (Nat.le_refl _) (.cells v.cells 87))
      have Q7 := Row.new (w2.alloc (.cells (ws.map wv).toArray 102)) v.cells 87
      have Q6 := HQ6.out.alloc (.cells v.cells 87)
      have e1 : (w2.alloc (.cells (ws.map wv).toArray 102)).heap.size = w2.heap.size + 1 := by simp
      have hBg : w.heap.size + 1 < w2.heap.size + 1 := by
        have h := World.block_lt_of_cell? _ _ (HM3.out.st 0 _ rfl).1
        rw [e1] at h; omega
      rw [e1] at Q7
      obtain ⟨V, hV⟩ : ∃ W, W = (w2.alloc (.cells (ws.map wv).toArray 102)).alloc (.cells v.cells 87) := ⟨_, rfl⟩
      rw [← hV] at M4 Q7 Q6 ⊢
      obtain ⟨g, hg⟩ : ∃ x, x = w2.heap.size := ⟨_, rfl⟩
      rw [← hg] at Q6 Q7 hBg hbg ⊢
      have HM4 := Lib.hid M4
      have H6 := Lib.hid Q6
      have H7 := Lib.hid Q7
      clear M4 Q6 Q7 hV hg e1 HM3 HQ6 RG I8 J8 O8 I3 O3 S3
      go_wp2_with fail
      go_loopw [8] (fun i wr => ∃ (t : Nat) (s : Sha.St), i = .int .i64 (t : Int) ∧ t ≤ 64 ∧ Sha.runs Sha.consts ws v t = s ∧ RefM w v (some ⟨b, o, none⟩) m wr ∧ Row g (ws.map wv) wr ∧ Row (g + 1) s.cells.toList wr) (fun i _ => 64 - (intOf i).toNat)
      case atStart => exact ⟨0, v, rfl, by omega, rfl, HM4.out, H6.out, H7.out⟩
      case round =>
        obtain ⟨t, s, rfl, ht, hs, hM4, h6, h7⟩ := hrel
        by_cases hlt2 : t < 64
        · have k0 := hM4.tab.const t hlt2
          have w0 := (h6 t (wv (Sha.at_ ws t)) (by
            unfold Sha.at_
            rw [List.getElem?_map, List.getD_eq_getElem?_getD, List.getElem?_eq_getElem (by rw [HWL.out]; exact hlt2)]; rfl)).1
          have hs1 : Sha.runs Sha.consts ws v (t + 1) = Sha.round s (Sha.at_ Sha.consts t) (Sha.at_ ws t) := by rw [Sha.runs, hs]
          generalize Sha.at_ Sha.consts t = KK at k0 hs1
          generalize Sha.at_ ws t = WW at w0 hs1
          obtain ⟨c0, c1, c2, c3, c4, c5, c6, c7⟩ := h7.st
          obtain ⟨a, b', c', d, e, f, g', h'⟩ := s
          simp only at c0 c1 c2 c3 c4 c5 c6 c7
          have HS1 := Lib.hid hs1
          have HM5 := Lib.hid hM4
          have H6b := Lib.hid h6
          have H7b := Lib.hid h7
          clear hs hs1 hM4 h6 h7 HM4 H6 H7
          have r6 := Lib.hid (fun (W : World) => hrRotr_any e 6 W (by omega))
          have r11 := Lib.hid (fun (W : World) => hrRotr_any e 11 W (by omega))
          have r25 := Lib.hid (fun (W : World) => hrRotr_any e 25 W (by omega))
          have hti : (t : Int) < 64 := by omega
          go_wp2_with fail
          go_quiet (first | (with_reducible show Calls _ _ #[_, Value.int .i64 6] _ _; exact Calls.quiet_of (r6.out _)) | (with_reducible show Calls _ _ #[_, Value.int .i64 11] _ _; exact Calls.quiet_of (r11.out _)) | (with_reducible show Calls _ _ #[_, Value.int .i64 25] _ _; exact Calls.quiet_of (r25.out _)))
          have EE := refE_int ⟨a, b', c', d, e, f, g', h'⟩ KK WW
          have EA := refA_int ⟨a, b', c', d, e, f, g', h'⟩
          simp only at EE EA
          have HRD : Sha.round ⟨a, b', c', d, e, f, g', h'⟩ KK WW = ⟨Sha.mixE ⟨a, b', c', d, e, f, g', h'⟩ KK WW + Sha.mixA ⟨a, b', c', d, e, f, g', h'⟩, a, b', c', d + Sha.mixE ⟨a, b', c', d, e, f, g', h'⟩ KK WW, e, f, g'⟩ := rfl
          generalize Sha.mixE ⟨a, b', c', d, e, f, g', h'⟩ KK WW = X at EE HRD
          generalize Sha.mixA ⟨a, b', c', d, e, f, g', h'⟩ = Y at EA HRD
          have FE := Lib.hid EE
          have FA := Lib.hid EA
          have FR := Lib.hid HRD
          clear EE EA HRD r6 r11 r25
          go_upto_region 12 with fail
          rw [FE.out]
          obtain ⟨V1, hV⟩ : ∃ W2, W2 = wr.drewN nq := ⟨_, rfl⟩
          have c0 : V1.cell? ⟨g + 1, 0, none⟩ = some (.int .u32 (a.toNat : Int)) := by rw [hV]; exact c0
          have c1 : V1.cell? ⟨g + 1, 1, none⟩ = some (.int .u32 (b'.toNat : Int)) := by rw [hV]; exact c1
          have c2 : V1.cell? ⟨g + 1, 2, none⟩ = some (.int .u32 (c'.toNat : Int)) := by rw [hV]; exact c2
          have HM5 : Hid (RefM w v (some ⟨b, o, none⟩) m V1) := Lib.hid (by rw [hV]; exact HM5.out.drewN nq)
          have H6b : Hid (Row g (ws.map wv) V1) := Lib.hid (by rw [hV]; exact H6b.out.drewN nq)
          have H7b : Hid (Row (g + 1) (Sha.St.mk a b' c' d e f g' h').cells.toList V1) := Lib.hid (by rw [hV]; exact H7b.out.drewN nq)
          rw [← hV]
          clear hV c3 c4 c5 c6 c7 k0 w0
          have r2 := Lib.hid (fun (W : World) => hrRotr_any a 2 W (by omega))
          have r13 := Lib.hid (fun (W : World) => hrRotr_any a 13 W (by omega))
          have r22 := Lib.hid (fun (W : World) => hrRotr_any a 22 W (by omega))
          go_quiet (first | (with_reducible show Calls _ _ #[_, Value.int .i64 2] _ _; exact Calls.quiet_of (r2.out _)) | (with_reducible show Calls _ _ #[_, Value.int .i64 13] _ _; exact Calls.quiet_of (r13.out _)) | (with_reducible show Calls _ _ #[_, Value.int .i64 22] _ _; exact Calls.quiet_of (r22.out _)))
          go_upto_region 13 with fail
          rw [FA.out]
          obtain ⟨V2, hV⟩ : ∃ W2, W2 = V1.drewN nq := ⟨_, rfl⟩
          have HM6 : Hid (RefM w v (some ⟨b, o, none⟩) m V2) := Lib.hid (by rw [hV]; exact HM5.out.drewN nq)
          have H6c : Hid (Row g (ws.map wv) V2) := Lib.hid (by rw [hV]; exact H6b.out.drewN nq)
          have H7c : Hid (Row (g + 1) (Sha.St.mk a b' c' d e f g' h').cells.toList V2) := Lib.hid (by rw [hV]; exact H7b.out.drewN nq)
          rw [← hV]
          clear hV c0 c1 c2 r2 r13 r22 HM5 H6b H7b FE FA
          obtain ⟨c0, c1, c2, c3, c4, c5, c6, c7⟩ := H7c.out.st
          simp only at c0 c1 c2 c3 c4 c5 c6 c7
          have T2 : Hid (V2.there (g + 1) 0 (#[Value.int .u32 (((X.toNat : Int) + (Y.toNat : Int)) % 4294967296), Value.int .u32 (a.toNat : Int), Value.int .u32 (b'.toNat : Int), Value.int .u32 (c'.toNat : Int), Value.int .u32 (((d.toNat : Int) + (X.toNat : Int)) % 4294967296), Value.int .u32 (e.toNat : Int), Value.int .u32 (f.toNat : Int), Value.int .u32 (g'.toNat : Int)] : Array Value).size) := Lib.hid (H7c.out.there 0 8 (by simp [Sha.St.cells]))
          have I8 : Hid ((Tryd.prog.info? 87).map (·.size) = some (#[Value.int .u32 (((X.toNat : Int) + (Y.toNat : Int)) % 4294967296), Value.int .u32 (a.toNat : Int), Value.int .u32 (b'.toNat : Int), Value.int .u32 (c'.toNat : Int), Value.int .u32 (((d.toNat : Int) + (X.toNat : Int)) % 4294967296), Value.int .u32 (e.toNat : Int), Value.int .u32 (f.toNat : Int), Value.int .u32 (g'.toNat : Int)] : Array Value).size) := Lib.hid (show (Tryd.prog.info? 87).map (·.size) = some 8 by kernel_rfl)
          have O8 : Hid ((#[Value.int .u32 (((X.toNat : Int) + (Y.toNat : Int)) % 4294967296), Value.int .u32 (a.toNat : Int), Value.int .u32 (b'.toNat : Int), Value.int .u32 (c'.toNat : Int), Value.int .u32 (((d.toNat : Int) + (X.toNat : Int)) % 4294967296), Value.int .u32 (e.toNat : Int), Value.int .u32 (f.toNat : Int), Value.int .u32 (g'.toNat : Int)] : Array Value).all (·.oneCell') = true) := Lib.hid (by simp [Value.oneCell'])
          have EC : Hid ((#[Value.int .u32 (((X.toNat : Int) + (Y.toNat : Int)) % 4294967296), Value.int .u32 (a.toNat : Int), Value.int .u32 (b'.toNat : Int), Value.int .u32 (c'.toNat : Int), Value.int .u32 (((d.toNat : Int) + (X.toNat : Int)) % 4294967296), Value.int .u32 (e.toNat : Int), Value.int .u32 (f.toNat : Int), Value.int .u32 (g'.toNat : Int)] : Array Value).toList = (Sha.round ⟨a, b', c', d, e, f, g', h'⟩ KK WW).cells.toList) := Lib.hid (by
            rw [FR.out]
            simp only [add_u32]
            rfl)
          go_wp2_with (with_reducible refine wpList_store_mid rfl 87 (.tmp 7) (.tmp 117) rfl (g + 1) 0 #[Value.int .u32 (((X.toNat : Int) + (Y.toNat : Int)) % 4294967296), Value.int .u32 (a.toNat : Int), Value.int .u32 (b'.toNat : Int), Value.int .u32 (c'.toNat : Int), Value.int .u32 (((d.toNat : Int) + (X.toNat : Int)) % 4294967296), Value.int .u32 (e.toNat : Int), Value.int .u32 (f.toNat : Int), Value.int .u32 (g'.toNat : Int)] rfl rfl T2.out I8.out O8.out ?_)
          have R7 := H7c.out.setCells 0 (#[Value.int .u32 (((X.toNat : Int) + (Y.toNat : Int)) % 4294967296), Value.int .u32 (a.toNat : Int), Value.int .u32 (b'.toNat : Int), Value.int .u32 (c'.toNat : Int), Value.int .u32 (((d.toNat : Int) + (X.toNat : Int)) % 4294967296), Value.int .u32 (e.toNat : Int), Value.int .u32 (f.toNat : Int), Value.int .u32 (g'.toNat : Int)] : Array Value).toList (by simp [Sha.St.cells])
          rw [show (Sha.St.mk a b' c' d e f g' h').cells.toList.take 0 ++ (#[Value.int .u32 (((X.toNat : Int) + (Y.toNat : Int)) % 4294967296), Value.int .u32 (a.toNat : Int), Value.int .u32 (b'.toNat : Int), Value.int .u32 (c'.toNat : Int), Value.int .u32 (((d.toNat : Int) + (X.toNat : Int)) % 4294967296), Value.int .u32 (e.toNat : Int), Value.int .u32 (f.toNat : Int), Value.int .u32 (g'.toNat : Int)] : Array Value).toList ++ (Sha.St.mk a b' c' d e f g' h').cells.toList.drop (0 + (#[Value.int .u32 (((X.toNat : Int) + (Y.toNat : Int)) % 4294967296), Value.int .u32 (a.toNat : Int), Value.int .u32 (b'.toNat : Int), Value.int .u32 (c'.toNat : Int), Value.int .u32 (((d.toNat : Int) + (X.toNat : Int)) % 4294967296), Value.int .u32 (e.toNat : Int), Value.int .u32 (f.toNat : Int), Value.int .u32 (g'.toNat : Int)] : Array Value).toList.length) = (#[Value.int .u32 (((X.toNat : Int) + (Y.toNat : Int)) % 4294967296), Value.int .u32 (a.toNat : Int), Value.int .u32 (b'.toNat : Int), Value.int .u32 (c'.toNat : Int), Value.int .u32 (((d.toNat : Int) + (X.toNat : Int)) % 4294967296), Value.int .u32 (e.toNat : Int), Value.int .u32 (f.toNat : Int), Value.int .u32 (g'.toNat : Int)] : Array Value).toList from by simp [Sha.St.cells]] at R7
          have R6 := H6c.out.far (b := g + 1) (by omega) 0 (#[Value.int .u32 (((X.toNat : Int) + (Y.toNat : Int)) % 4294967296), Value.int .u32 (a.toNat : Int), Value.int .u32 (b'.toNat : Int), Value.int .u32 (c'.toNat : Int), Value.int .u32 (((d.toNat : Int) + (X.toNat : Int)) % 4294967296), Value.int .u32 (e.toNat : Int), Value.int .u32 (f.toNat : Int), Value.int .u32 (g'.toNat : Int)] : Array Value).toList
          have RM := HM6.out.store (g + 1) (by omega) 0 (#[Value.int .u32 (((X.toNat : Int) + (Y.toNat : Int)) % 4294967296), Value.int .u32 (a.toNat : Int), Value.int .u32 (b'.toNat : Int), Value.int .u32 (c'.toNat : Int), Value.int .u32 (((d.toNat : Int) + (X.toNat : Int)) % 4294967296), Value.int .u32 (e.toNat : Int), Value.int .u32 (f.toNat : Int), Value.int .u32 (g'.toNat : Int)] : Array Value).toList (fun b0 o0 h => by cases h; omega) hG0
          have KR7 : Hid (Row (g + 1) (Sha.round ⟨a, b', c', d, e, f, g', h'⟩ KK WW).cells.toList (V2.setCells (g + 1) 0 (#[Value.int .u32 (((X.toNat : Int) + (Y.toNat : Int)) % 4294967296), Value.int .u32 (a.toNat : Int), Value.int .u32 (b'.toNat : Int), Value.int .u32 (c'.toNat : Int), Value.int .u32 (((d.toNat : Int) + (X.toNat : Int)) % 4294967296), Value.int .u32 (e.toNat : Int), Value.int .u32 (f.toNat : Int), Value.int .u32 (g'.toNat : Int)] : Array Value).toList)) := Lib.hid (by rw [← EC.out]; exact R7)
          have KR6 := Lib.hid R6
          have KRM := Lib.hid RM
          clear R7 R6 RM c0 c1 c2 c3 c4 c5 c6 c7
          go_roundw
          case rel => exact ⟨t + 1, Sha.round ⟨a, b', c', d, e, f, g', h'⟩ KK WW, by go_num, by omega, HS1.out, KRM.out, KR6.out, KR7.out⟩
          case measure => simp [intOf]; omega
        · have ht64 : t = 64 := by omega
          subst ht64
          rw [hs] at HST
          have HN1 := Lib.hid (show RefN w (some ⟨b, o, none⟩) m wr from ⟨hM4.res, hM4.msg, hM4.tab, hM4.below⟩)
          have HS1 := Lib.hid (show Row (w.heap.size + 1) (adds v s 0) wr from hM4.st)
          have H7c := Lib.hid h7
          clear hs hM4 h6 h7 HM4 H6 H7
          go_wp2_with fail
          go_loopw [11] (fun i wr => ∃ j : Nat, i = .int .i64 (j : Int) ∧ j ≤ 8 ∧ RefN w (some ⟨b, o, none⟩) m wr ∧ Row (w.heap.size + 1) (adds v s j) wr ∧ Row (g + 1) s.cells.toList wr) (fun i _ => 8 - (intOf i).toNat)
          case atStart => exact ⟨0, rfl, by omega, HN1.out, HS1.out, H7c.out⟩
          case round =>
            obtain ⟨j, rfl, hj, hN1, hS1, h7⟩ := hrel
            by_cases hlt3 : j < 8
            · obtain ⟨d0, f0⟩ := hS1 j _ (adds_at v s j hlt3)
              have d1 := (h7 j _ (cells_at s j hlt3)).1
              have hstep := adds_step v s j hlt3
              have hS2 := (show Row (w.heap.size + 1) (adds v s j) wr.drew from hS1).set j (wv (v.toList.getD j 0 + s.toList.getD j 0)) (by rw [adds_len _ _ _ (by omega)]; exact hlt3)
              rw [hstep] at hS2
              have hN2 := hN1.drew.store j (wv (v.toList.getD j 0 + s.toList.getD j 0)) (fun b0 o0 h => by cases h; omega) hG0
              have h72 := (show Row (g + 1) s.cells.toList wr.drew from h7).far (b := w.heap.size + 1) (by omega) j [wv (v.toList.getD j 0 + s.toList.getD j 0)]
              generalize v.toList.getD j 0 = x at d0 hS2 hN2 h72
              generalize s.toList.getD j 0 = y at d1 hS2 hN2 h72
              have KA := Lib.hid (add_u32 x y)
              have K1 := Lib.hid hS2
              have K2 := Lib.hid hN2
              have K3 : Hid (Row (g + 1) s.cells.toList (wr.drew.setCell ⟨w.heap.size + 1, j, none⟩ (wv (x + y)))) := Lib.hid h72
              have hji : (j : Int) < 8 := by omega
              clear hstep hS2 hN2 h72 hN1 hS1 h7 HN1 HS1 H7c
              go_wp2_with fail
              go_region
              go_wp2_with fail
              rw [KA.out]
              go_roundw
              case rel => exact ⟨j + 1, by go_num, by omega, K2.out, K1.out, K3.out⟩
              case measure => simp [intOf]; omega
            · have hj8 : j = 8 := by omega
              subst hj8
              have hst : Row (w.heap.size + 1) (Sha.hashed Sha.consts m (k + 1)).cells.toList wr := by rw [HST.out]; exact hS1
              have KM : Hid (RefM w (Sha.hashed Sha.consts m (k + 1)) (some ⟨b, o, none⟩) m wr) := Lib.hid ⟨hst, hN1.res, hN1.msg, hN1.tab, hN1.below⟩
              clear hst hN1 hS1 h7 HN1 HS1 H7c HST
              go_wp2_with fail
              first
                | exact ⟨⟨k + 1, by go_num, by omega, KM.out⟩, by simp [intOf]; omega⟩
                | (go_roundw
                   case rel => exact ⟨k + 1, by go_num, by omega, KM.out⟩
                   case measure => simp [intOf]; omega)
    · have hkN : k = N := by omega
      subst hkN
      have hnl : ¬ ((64 * k : Nat) : Int) < ((64 * k : Nat) : Int) := by omega
      obtain ⟨f, hf⟩ : ∃ x, x = Sha.hashed Sha.consts m k := ⟨_, rfl⟩
      rw [← hf] at hM HOS
      have HM := Lib.hid hM
      have hB2 := World.block_lt_of_cell? _ _ (hM.st 0 _ rfl).1
      clear hf hM M0
      go_upto_region 19 with fail
      have q12 : Row wr.heap.size (fill32 []) (wr.alloc (.cells #[Value.int .u8 0, Value.int .u8 0, Value.int .u8 0, Value.int .u8 0, Value.int .u8 0, Value.int .u8 0, Value.int .u8 0, Value.int .u8 0, Value.int .u8 0, Value.int .u8 0, Value.int .u8 0, Value.int .u8 0, Value.int .u8 0, Value.int .u8 0, Value.int .u8 0, Value.int .u8 0, Value.int .u8 0, Value.int .u8 0, Value.int .u8 0, Value.int .u8 0, Value.int .u8 0, Value.int .u8 0, Value.int .u8 0, Value.int .u8 0, Value.int .u8 0, Value.int .u8 0, Value.int .u8 0, Value.int .u8 0, Value.int .u8 0, Value.int .u8 0, Value.int .u8 0, Value.int .u8 0] 76)) := Row.new wr #[Value.int .u8 0, Value.int .u8 0, Value.int .u8 0, Value.int .u8 0, Value.int .u8 0, Value.int .u8 0, Value.int .u8 0, Value.int .u8 0, Value.int .u8 0, Value.int .u8 0, Value.int .u8 0, Value.int .u8 0, Value.int .u8 0, Value.int .u8 0, Value.int .u8 0, Value.int .u8 0, Value.int .u8 0, Value.int .u8 0, Value.int .u8 0, Value.int .u8 0, Value.int .u8 0, Value.int .u8 0, Value.int .u8 0, Value.int .u8 0, Value.int .u8 0, Value.int .u8 0, Value.int .u8 0, Value.int .u8 0, Value.int .u8 0, Value.int .u8 0, Value.int .u8 0, Value.int .u8 0] 76
      have M12 := HM.out.next ((Below.refl _ _).alloc (Nat.le_refl _) (.cells #[Value.int .u8 0, Value.int .u8 0, Value.int .u8 0, Value.int .u8 0, Value.int .u8 0, Value.int .u8 0, Value.int .u8 0, Value.int .u8 0, Value.int .u8 0, Value.int .u8 0, Value.int .u8 0, Value.int .u8 0, Value.int .u8 0, Value.int .u8 0, Value.int .u8 0, Value.int .u8 0, Value.int .u8 0, Value.int .u8 0, Value.int .u8 0, Value.int .u8 0, Value.int .u8 0, Value.int .u8 0, Value.int .u8 0, Value.int .u8 0, Value.int .u8 0, Value.int .u8 0, Value.int .u8 0, Value.int .u8 0, Value.int .u8 0, Value.int .u8 0, Value.int .u8 0, Value.int .u8 0] 76))
      obtain ⟨g, hg⟩ : ∃ x, x = wr.heap.size := ⟨_, rfl⟩
      obtain ⟨V, hV⟩ : ∃ x, x = wr.alloc (.cells #[Value.int .u8 0, Value.int .u8 0, Value.int .u8 0, Value.int .u8 0, Value.int .u8 0, Value.int .u8 0, Value.int .u8 0, Value.int .u8 0, Value.int .u8 0, Value.int .u8 0, Value.int .u8 0, Value.int .u8 0, Value.int .u8 0, Value.int .u8 0, Value.int .u8 0, Value.int .u8 0, Value.int .u8 0, Value.int .u8 0, Value.int .u8 0, Value.int .u8 0, Value.int .u8 0, Value.int .u8 0, Value.int .u8 0, Value.int .u8 0, Value.int .u8 0, Value.int .u8 0, Value.int .u8 0, Value.int .u8 0, Value.int .u8 0, Value.int .u8 0, Value.int .u8 0, Value.int .u8 0] 76) := ⟨_, rfl⟩
      rw [← hV, ← hg] at q12
      rw [← hV] at M12 ⊢
      rw [← hg] at hB2 ⊢
      have K1 := Lib.hid q12
      have K2 := Lib.hid M12.st
      have K3 := Lib.hid M12.res
      have K4 := Lib.hid M12.below
      clear q12 M12 hV hg HM
      go_wp2_with fail
      go_loopw [13] (fun i wr => ∃ j : Nat, i = .int .i64 (j : Int) ∧ j ≤ 32 ∧ Row g (fill32 (out.take j)) wr ∧ Row (w.heap.size + 1) f.cells.toList wr ∧ Row w.heap.size (fill32 []) wr ∧ Below w.heap.size w wr) (fun i _ => 32 - (intOf i).toNat)
      case atStart => exact ⟨0, rfl, by omega, K1.out, K2.out, K3.out, K4.out⟩
      case round =>
        obtain ⟨j, rfl, hj, h1, h2, h3, h4⟩ := hrel
        have hol : out.length = 32 := by rw [HOS.out]; exact Sha.St.out_len _
        by_cases hlt4 : j < 32
        · have d1 := (h2 (j / 4) _ (cells_at f (j / 4) (by omega))).1
          obtain ⟨u0, e0⟩ := Option.isSome_iff_exists.1 (h1.there j 1 (by rw [fill32_len _ (by rw [List.length_take]; omega)]; omega) 0 (by omega)).1
          have f0 := (h1.there j 1 (by rw [fill32_len _ (by rw [List.length_take]; omega)]; omega) 0 (by omega)).2
          rw [Nat.add_zero] at e0 f0
          have ob := out_byte f j hlt4
          rw [← HOS.out] at ob
          generalize f.toList.getD (j / 4) 0 = x at d1 ob
          have r1 := h1.setCells j ([out.getD j 0].map bv) (by rw [fill32_len _ (by rw [List.length_take]; omega)]; simp; omega)
          have es := fill32_step (out.take j) [out.getD j 0]
          rw [List.length_take, Nat.min_eq_left (by omega)] at es
          have et : out.take j ++ [out.getD j 0] = out.take (j + 1) := by
            rw [List.take_succ_eq_append_getElem (by omega), List.getD_eq_getElem?_getD, List.getElem?_eq_getElem (by omega)]; rfl
          rw [es, et] at r1
          have r2 := h2.far (b := g) (by omega) j ([out.getD j 0].map bv)
          have r3 := h3.far (b := g) (by omega) j ([out.getD j 0].map bv)
          have r4 := below_setCells (b := g) (by omega) ([out.getD j 0].map bv) j w wr h4
          have hv : bv (out.getD j 0) = .int .u8 ((x.toNat : Int) / 2 ^ (24 - 8 * (j % 4)) % 256) := by
            rw [ob]; unfold bv; rw [← byte_of]
          have P1 := Lib.hid r1
          have P2 := Lib.hid r2
          have P3 := Lib.hid r3
          have P4 := Lib.hid r4
          have HV := Lib.hid hv
          have hji : (j : Int) < 32 := by omega
          have hs1 : (0 : Int) ≤ 24 - 8 * ((j : Int) % 4) := by omega
          have hs2 : (24 - 8 * ((j : Int) % 4)).toNat = 24 - 8 * (j % 4) := by omega
          clear h1 h2 h3 h4 ob es et r1 r2 r3 r4 hv hol K1 K2 K3 K4
          go_wp2_with fail
          refine ⟨⟨j + 1, by go_num, by omega, ?_, ?_, ?_, ?_⟩, by simp [intOf]; omega⟩
          · rw [← HV.out]; exact P1.out
          · rw [← HV.out]; exact P2.out
          · rw [← HV.out]; exact P3.out
          · rw [← HV.out]; exact P4.out
        · have hj32 : j = 32 := by omega
          subst hj32
          rw [List.take_of_length_le (by omega), fill32_full _ hol] at h1
          have Q2 := Lib.hid h1.range
          have QB := Lib.hid h4
          have I32 := Lib.hid (show (Tryd.prog.info? 76).map (·.size) = some (out.map bv).length by rw [List.length_map, hol]; kernel_rfl)
          have J32 := Lib.hid (show (Tryd.prog.info? 76).map (·.size) = some (out.map bv).toArray.size by rw [List.size_toArray, List.length_map, hol]; kernel_rfl)
          have T32 := Lib.hid (h3.there 0 (out.map bv).toArray.size (by rw [List.size_toArray, List.length_map, hol, fill32_len _ (by simp)]; omega))
          have O32 := Lib.hid (all_oneCell_toArray (bvs_one out))
          clear hol h1 h2 h3 h4 K1 K2 K3 K4
          go_wp2_with (first | (with_reducible refine wpList_load_mid rfl 76 (.tmp 12) rfl g 0 rfl (out.map bv) _ Q2.out Tryd.underlying76 rfl I32.out ?_) | (with_reducible refine wpList_store_mid rfl 76 (.tmp 2) (.tmp 147) rfl w.heap.size 0 (out.map bv).toArray rfl rfl T32.out J32.out O32.out ?_))
          have HRR := Lib.hid (World.rangeAt_setCells_same wr w.heap.size 0 (out.map bv).toArray.toList (by simpa using T32.out))
          refine bodyPost_ret (results_cell_mid rfl _ _ _ w.heap.size 0 (out.map bv) _ rfl HRR.out Tryd.underlying76 rfl I32.out) rfl ?_
          exact ⟨rfl, below_setCells (Nat.le_refl _) _ 0 _ _ QB.out⟩

end Go.Proofs.YtdbdlhgkhnenfaaDoor
