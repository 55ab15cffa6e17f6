/-
  Contracts of package hash: a block is compressed.
-/
import Derived.Test.YtdbdlhgkhnenfaaDoorGc
import Derived.Test.YtdbdlhgkhnenfaaDoorGb
import Derived.Lib.SliceRun
namespace Go.Proofs.YtdbdlhgkhnenfaaDoor
open Go.RowKit
open Sha (wv)

/-- the tables of package hash lie as they were laid -/
def Tab (w : World) : Prop := w.rangeAt 0 0 (Sha.first.toList.map wv) ∧ w.rangeAt 2 0 (Sha.consts.map wv)
theorem Tab.below {w w' : World} (h : Tab w) (hb : Below w.heap.size w w') : Tab w' :=
  ⟨fun j v hj => (hb.cell (World.block_lt_of_cell? w _ (h.1 j v hj))).trans (h.1 j v hj), fun j v hj => (hb.cell (World.block_lt_of_cell? w _ (h.2 j v hj))).trans (h.2 j v hj)⟩
theorem Tab.const {w : World} (h : Tab w) (k : Nat) (hk : k < 64) : w.cell? ⟨2, k, none⟩ = some (.int .u32 ((Sha.at_ Sha.consts k).toNat : Int)) := by
  have h1 := h.2 k (wv (Sha.at_ Sha.consts k)) (by
    have hl : Sha.consts.length = 64 := rfl
    unfold Sha.at_
    rw [List.getElem?_map, List.getD_eq_getElem?_getD, List.getElem?_eq_getElem (by omega)]; rfl)
  rw [Nat.zero_add] at h1
  exact h1
theorem words_len (l : List UInt8) : (Sha.words l).length = 64 := by unfold Sha.words; rw [Sha.more_len, Sha.heads_len]
theorem words_at (l : List UInt8) (k : Nat) (hk : k < 64) : ((Sha.words l).map wv)[k]? = some (wv (Sha.at_ (Sha.words l) k)) := by
  have := words_len l
  unfold Sha.at_
  rw [List.getElem?_map, List.getD_eq_getElem?_getD, List.getElem?_eq_getElem (by omega)]; rfl

/-- the memory of a compression -/
structure Cmp (w : World) (v : Sha.St) (ws : List (BitVec 32)) (g : Nat) (wr : World) : Prop where
  p1 : Row w.heap.size v.cells.toList wr
  p3 : Row (w.heap.size + 1 + 1) (List.replicate 8 (Value.int .u32 0)) wr
  pw : Row g (ws.map wv) wr
  tab : Tab wr
  below : Below w.heap.size w wr
theorem Cmp.drewN {w : World} {v : Sha.St} {ws : List (BitVec 32)} {g : Nat} {wr : World} (h : Cmp w v ws g wr) (q : Nat) : Cmp w v ws g (wr.drewN q) :=
  ⟨h.p1.drewN q, h.p3.drewN q, h.pw.drewN q, h.tab, below_drewN h.below q⟩
theorem bits_not (x : BitVec 32) : bits .xor .u32 IntKind.u32.max (x.toNat : Int) = ((x ^^^ 0xffffffff).toNat : Int) := by
  have e : IntKind.u32.max = (((0xffffffff : BitVec 32).toNat : Nat) : Int) := by decide
  rw [e, Sha.bits_xor, BitVec.xor_comm]
theorem add_u32 (x y : BitVec 32) : ((x.toNat : Int) + (y.toNat : Int)) % 4294967296 = ((x + y).toNat : Int) := by
  rw [BitVec.toNat_add]; omega
theorem mixE_int (e f g h te k w : BitVec 32) :
    ((h.toNat : Int) + (te.toNat : Int) + bits .xor .u32 (bits .and .u32 (e.toNat : Int) (f.toNat : Int)) (bits .and .u32 (bits .xor .u32 IntKind.u32.max (e.toNat : Int)) (g.toNat : Int)) + (k.toNat : Int) + (w.toNat : Int)) % 4294967296
      = ((h + te + ((e &&& f) ^^^ ((e ^^^ 0xffffffff) &&& g)) + k + w).toNat : Int) := by
  rw [bits_not, Sha.bits_and, Sha.bits_and, Sha.bits_xor]
  generalize (e &&& f) ^^^ ((e ^^^ 0xffffffff) &&& g) = z
  simp only [BitVec.toNat_add]
  omega
theorem mixA_int (a b c ta : BitVec 32) :
    ((ta.toNat : Int) + bits .xor .u32 (bits .xor .u32 (bits .and .u32 (a.toNat : Int) (b.toNat : Int)) (bits .and .u32 (a.toNat : Int) (c.toNat : Int))) (bits .and .u32 (b.toNat : Int) (c.toNat : Int))) % 4294967296
      = ((ta + ((a &&& b) ^^^ (a &&& c) ^^^ (b &&& c))).toNat : Int) := by
  rw [Sha.bits_and, Sha.bits_and, Sha.bits_and, Sha.bits_xor, Sha.bits_xor, add_u32]
theorem hsTurned_q (x : BitVec 32) (i j k : Nat) (W : World) (hi : 1 ≤ i ∧ i ≤ 31) (hj : 1 ≤ j ∧ j ≤ 31) (hk : 1 ≤ k ∧ k ≤ 31) :
    Calls Tryd.prog 82 #[wv x, .int .i64 (i : Int), .int .i64 (j : Int), .int .i64 (k : Int)] W fun e w' => e = .returned (wv (turn3 x i j k)) ∧ ∃ q, w' = W.drewN q :=
  (hsTurned_any x i j k W hi hj hk).mono fun _ _ ⟨he, hw⟩ => ⟨he, 0, hw.symm⟩
theorem Row.newl (w : World) (l : List Value) (t : TypeId) : Row w.heap.size l (w.alloc (.cells l.toArray t)) := Row.new w l.toArray t
/-- the eight words of a state -/
theorem Row.st {g : Nat} {v : Sha.St} {w : World} (h : Row g v.cells.toList w) :
    w.cell? ⟨g, 0, none⟩ = some (.int .u32 (v.a.toNat : Int)) ∧ w.cell? ⟨g, 1, none⟩ = some (.int .u32 (v.b.toNat : Int)) ∧ w.cell? ⟨g, 2, none⟩ = some (.int .u32 (v.c.toNat : Int)) ∧ w.cell? ⟨g, 3, none⟩ = some (.int .u32 (v.d.toNat : Int)) ∧
    w.cell? ⟨g, 4, none⟩ = some (.int .u32 (v.e.toNat : Int)) ∧ w.cell? ⟨g, 5, none⟩ = some (.int .u32 (v.f.toNat : Int)) ∧ w.cell? ⟨g, 6, none⟩ = some (.int .u32 (v.g.toNat : Int)) ∧ w.cell? ⟨g, 7, none⟩ = some (.int .u32 (v.h.toNat : Int)) :=
  ⟨(h 0 _ rfl).1, (h 1 _ rfl).1, (h 2 _ rfl).1, (h 3 _ rfl).1, (h 4 _ rfl).1, (h 5 _ rfl).1, (h 6 _ rfl).1, (h 7 _ rfl).1⟩

set_option maxRecDepth 1000000 in
set_option maxHeartbeats 400000 in
theorem hsCompress_any (v : Sha.St) (blk : List UInt8) (w : World) (hn : blk.length = 64) (ht : Tab w) :
    Calls Tryd.prog 76 #[.agg v.cells, .agg (blk.map bv).toArray] w fun e w' => e = .returned (.agg (Sha.block Sha.consts blk v).cells) ∧ Below w.heap.size w w' := by
  have CS := Lib.hid (fun W : World => hsSchedule_any blk W hn)
  have hR1 : (Sha.block Sha.consts blk v).cells = (v.add (Sha.runs Sha.consts (Sha.words blk) v 64)).cells := rfl
  have hl := words_len blk
  rw [hR1]
  clear hR1
  generalize Sha.words blk = ws at *
  have I := Lib.hid (show (Tryd.prog.info? 88).map (·.size) = some (blk.map bv).length by rw [List.length_map, hn]; kernel_rfl)
  have I3 := Lib.hid (show (Tryd.prog.info? 102).map (·.size) = some (ws.map wv).toArray.size by rw [List.size_toArray, List.length_map, hl]; kernel_rfl)
  have O3 := Lib.hid (all_oneCell_toArray (cs := ws.map wv) (fun v hv => by obtain ⟨x, _, rfl⟩ := List.mem_map.1 hv; rfl))
  have S3 := Lib.hid (show (ws.map wv).toArray.size = 64 by rw [List.size_toArray, List.length_map, hl])
  obtain ⟨q1, q2, q3, q4, q5⟩ := three_rows w v.cells (blk.map bv).toArray #[Value.int .u32 0, Value.int .u32 0, Value.int .u32 0, Value.int .u32 0, Value.int .u32 0, Value.int .u32 0, Value.int .u32 0, Value.int .u32 0] 87 88 87
  have Q1 := Lib.hid q1
  have Q2 := Lib.hid q2
  have Q3 := Lib.hid (show Row (w.heap.size + 2) (List.replicate 8 (Value.int .u32 0)) _ from q3)
  have Q4 := Lib.hid q4
  have Q5 := Lib.hid q5
  clear q1 q2 q3 q4 q5
  have HN := Lib.hid hn
  have HT := Lib.hid ht
  clear hn ht
  have HL := Lib.hid hl
  clear hl
  obtain ⟨R, hR⟩ : ∃ R, R = (v.add (Sha.runs Sha.consts ws v 64)).cells := ⟨_, rfl⟩
  rw [← hR]
  have HR := Lib.hid hR
  clear hR
  obtain ⟨VC, hVC⟩ : ∃ R, R = v.cells := ⟨_, rfl⟩
  rw [← hVC] at Q1 Q2 Q3 Q4 Q5 ⊢
  have HVC := Lib.hid hVC
  clear hVC
  go_enter Tryd.func76, Tryd.ntmps76
  go_wp2_with (with_reducible refine wpList_load_mid rfl 88 (.tmp 3) rfl (w.heap.size + 1) 0 rfl (blk.map bv) _ Q2.out.range Tryd.underlying88 rfl I.out ?_)
  refine (CS.out _).mono ?_
  rintro e w1 ⟨rfl, hb⟩
  have HB := Lib.hid hb
  have hz : w.heap.size + 3 ≤ w1.heap.size := by have := hb.size; rw [Q5.out] at this; exact this
  clear hb
  go_wp2_with (with_reducible refine wpList_store_new w1 rfl 102 (.tmp 5) (.tmp 18) rfl _ (ws.map wv).toArray rfl rfl I3.out (Eq.trans (b := 64) (by kernel_rfl) S3.out.symm) O3.out ?_)
  go_frame
  obtain ⟨V, hV⟩ : ∃ V, V = w1.alloc (.cells (ws.map wv).toArray 102) := ⟨_, rfl⟩
  have hb := HB.out
  rw [Q5.out] at hb
  have hbV : Below w.heap.size w V := by rw [hV]; exact (Q4.out.trans (hb.mono (by omega))).alloc (by omega) _
  have hT : Tab V := HT.out.below hbV
  have hP1 : Row w.heap.size VC.toList V := by rw [hV]; exact (Q1.out.below HB.out).alloc _
  have hP3 : Row (w.heap.size + 2) (List.replicate 8 (Value.int .u32 0)) V := by rw [hV]; exact (Q3.out.below HB.out).alloc _
  have hPW : Row w1.heap.size (ws.map wv) V := by rw [hV]; exact Row.newl w1 (ws.map wv) 102
  have hsV : V.heap.size = w1.heap.size + 1 := by rw [hV]; simp
  rw [← hV]
  clear hV hb Q1 Q2 Q3 Q4 Q5 HB I I3 O3 S3
  rw [HVC.out] at hP1
  obtain ⟨c0, c1, c2, c3, c4, c5, c6, c7⟩ := hP1.st
  have P1 := Lib.hid hP1
  have P3 := Lib.hid hP3
  have PW := Lib.hid hPW
  have HT' := Lib.hid hT
  have HBV := Lib.hid hbV
  have SV := Lib.hid hsV
  have hgz : w1.heap.size < V.heap.size := by rw [hsV]; omega
  generalize hg : w1.heap.size = g at *
  have HC : Hid (Cmp w v ws g (V.drew)) := Lib.hid ⟨hP1, hP3, hPW, hT, below_drew hbV⟩
  clear hP1 hP3 hPW hT hbV hsV hg P1 P3 PW HT' HBV SV HT CS HVC HN
  go_quiet (fail)
  have HC2 : Hid (Cmp w v ws g (V.drewN nq)) := Lib.hid ⟨HC.out.p1, HC.out.p3, HC.out.pw, HC.out.tab, ⟨HC.out.below.os, HC.out.below.tape, HC.out.below.output, HC.out.below.size, HC.out.below.block⟩⟩
  generalize V.drewN nq = V2 at *
  clear HC c0 c1 c2 c3 c4 c5 c6 c7 hgz
  go_wp2_with fail
  go_loopw [6, 7, 8, 9, 10, 11, 12, 13, 35] (fun xa xb xc xd xe xf xg xh i wr => ∃ (k : Nat) (s : Sha.St), xa = wv s.a ∧ xb = wv s.b ∧ xc = wv s.c ∧ xd = wv s.d ∧ xe = wv s.e ∧ xf = wv s.f ∧ xg = wv s.g ∧ xh = wv s.h ∧ i = .int .i64 (k : Int) ∧ k ≤ 64 ∧ Sha.runs Sha.consts ws v k = s ∧ Cmp w v ws g wr) (fun _ _ _ _ _ _ _ _ i _ => 64 - (intOf i).toNat)
  case atStart => exact ⟨0, v, rfl, rfl, rfl, rfl, rfl, rfl, rfl, rfl, rfl, by omega, rfl, HC2.out⟩
  case round =>
    obtain ⟨k, s, rfl, rfl, rfl, rfl, rfl, rfl, rfl, rfl, rfl, hk, hs, hc⟩ := hrel
    by_cases hlt : k < 64
    · have k0 := hc.tab.const k hlt
      have w0 := (hc.pw k (wv (Sha.at_ ws k)) (by
        unfold Sha.at_
        rw [List.getElem?_map, List.getD_eq_getElem?_getD, List.getElem?_eq_getElem (by rw [HL.out]; exact hlt)]; rfl)).1
      have hs1 : Sha.runs Sha.consts ws v (k + 1) = Sha.round s (Sha.at_ Sha.consts k) (Sha.at_ ws k) := by rw [Sha.runs, hs]
      generalize Sha.at_ Sha.consts k = KK at k0 hs1
      generalize Sha.at_ ws k = WW at w0 hs1
      have HS1 := Lib.hid hs1
      have HC3 := Lib.hid hc
      clear hs hs1 hc HC2
      obtain ⟨a, b, c, d, e, f, g', h'⟩ := s
      have T1 := Lib.hid (fun W : World => hsTurned_q e 6 11 25 W (by omega) (by omega) (by omega))
      have T2 := Lib.hid (fun W : World => hsTurned_any a 2 13 22 W (by omega) (by omega) (by omega))
      obtain ⟨te, hte⟩ : ∃ t, t = turn3 e 6 11 25 := ⟨_, rfl⟩
      obtain ⟨ta, hta⟩ : ∃ t, t = turn3 a 2 13 22 := ⟨_, rfl⟩
      rw [← hte] at T1
      rw [← hta] at T2
      have HE := Lib.hid hte
      have HA := Lib.hid hta
      clear hte hta
      have hki : (k : Int) < 64 := by omega
      go_wp2_with fail
      go_quiet ((exact Calls.quiet_of (T1.out _)))
      go_wp2_with fail
      refine (T2.out _).mono ?_
      rintro e1 w1 ⟨rfl, rfl⟩
      go_wp2_with fail
      go_roundw
      case rel =>
        refine ⟨k + 1, Sha.round ⟨a, b, c, d, e, f, g', h'⟩ KK WW, ?_, rfl, rfl, rfl, ?_, rfl, rfl, rfl, by go_num, by omega, HS1.out, ?_⟩
        · rw [mixE_int, mixA_int, add_u32, HE.out, HA.out]; rfl
        · rw [mixE_int, add_u32, HE.out]; rfl
        · exact HC3.out.drewN nq
      case measure => simp [intOf]; omega
    · have hk64 : k = 64 := by omega
      subst hk64
      obtain ⟨c0, c1, c2, c3, c4, c5, c6, c7⟩ := hc.p1.st
      have HC3 := Lib.hid hc
      have HS := Lib.hid hs
      clear hs hc HC2
      obtain ⟨a, b, c, d, e, f, g', h'⟩ := s
      have T2 : Hid (wr.there (w.heap.size + 1 + 1) 0 (#[Value.int .u32 (((v.a.toNat : Int) + (a.toNat : Int)) % 4294967296), Value.int .u32 (((v.b.toNat : Int) + (b.toNat : Int)) % 4294967296), Value.int .u32 (((v.c.toNat : Int) + (c.toNat : Int)) % 4294967296), Value.int .u32 (((v.d.toNat : Int) + (d.toNat : Int)) % 4294967296), Value.int .u32 (((v.e.toNat : Int) + (e.toNat : Int)) % 4294967296), Value.int .u32 (((v.f.toNat : Int) + (f.toNat : Int)) % 4294967296), Value.int .u32 (((v.g.toNat : Int) + (g'.toNat : Int)) % 4294967296), Value.int .u32 (((v.h.toNat : Int) + (h'.toNat : Int)) % 4294967296)] : Array Value).size) := Lib.hid (HC3.out.p3.there 0 8 (by simp))
      have I8 : Hid ((Tryd.prog.info? 87).map (·.size) = some (#[Value.int .u32 (((v.a.toNat : Int) + (a.toNat : Int)) % 4294967296), Value.int .u32 (((v.b.toNat : Int) + (b.toNat : Int)) % 4294967296), Value.int .u32 (((v.c.toNat : Int) + (c.toNat : Int)) % 4294967296), Value.int .u32 (((v.d.toNat : Int) + (d.toNat : Int)) % 4294967296), Value.int .u32 (((v.e.toNat : Int) + (e.toNat : Int)) % 4294967296), Value.int .u32 (((v.f.toNat : Int) + (f.toNat : Int)) % 4294967296), Value.int .u32 (((v.g.toNat : Int) + (g'.toNat : Int)) % 4294967296), Value.int .u32 (((v.h.toNat : Int) + (h'.toNat : Int)) % 4294967296)] : Array Value).size) := Lib.hid (show (Tryd.prog.info? 87).map (·.size) = some 8 by kernel_rfl)
      have EC : Hid ((#[Value.int .u32 (((v.a.toNat : Int) + (a.toNat : Int)) % 4294967296), Value.int .u32 (((v.b.toNat : Int) + (b.toNat : Int)) % 4294967296), Value.int .u32 (((v.c.toNat : Int) + (c.toNat : Int)) % 4294967296), Value.int .u32 (((v.d.toNat : Int) + (d.toNat : Int)) % 4294967296), Value.int .u32 (((v.e.toNat : Int) + (e.toNat : Int)) % 4294967296), Value.int .u32 (((v.f.toNat : Int) + (f.toNat : Int)) % 4294967296), Value.int .u32 (((v.g.toNat : Int) + (g'.toNat : Int)) % 4294967296), Value.int .u32 (((v.h.toNat : Int) + (h'.toNat : Int)) % 4294967296)] : Array Value) = R) := Lib.hid (by
        rw [HR.out, HS.out]
        simp only [add_u32]
        rfl)
      have O8 : Hid ((#[Value.int .u32 (((v.a.toNat : Int) + (a.toNat : Int)) % 4294967296), Value.int .u32 (((v.b.toNat : Int) + (b.toNat : Int)) % 4294967296), Value.int .u32 (((v.c.toNat : Int) + (c.toNat : Int)) % 4294967296), Value.int .u32 (((v.d.toNat : Int) + (d.toNat : Int)) % 4294967296), Value.int .u32 (((v.e.toNat : Int) + (e.toNat : Int)) % 4294967296), Value.int .u32 (((v.f.toNat : Int) + (f.toNat : Int)) % 4294967296), Value.int .u32 (((v.g.toNat : Int) + (g'.toNat : Int)) % 4294967296), Value.int .u32 (((v.h.toNat : Int) + (h'.toNat : Int)) % 4294967296)] : Array Value).all (·.oneCell') = true) := Lib.hid (by simp [Value.oneCell'])
      go_wp2_with (with_reducible refine wpList_store_mid rfl 87 (.tmp 4) (.tmp 118) rfl (w.heap.size + 1 + 1) 0 #[Value.int .u32 (((v.a.toNat : Int) + (a.toNat : Int)) % 4294967296), Value.int .u32 (((v.b.toNat : Int) + (b.toNat : Int)) % 4294967296), Value.int .u32 (((v.c.toNat : Int) + (c.toNat : Int)) % 4294967296), Value.int .u32 (((v.d.toNat : Int) + (d.toNat : Int)) % 4294967296), Value.int .u32 (((v.e.toNat : Int) + (e.toNat : Int)) % 4294967296), Value.int .u32 (((v.f.toNat : Int) + (f.toNat : Int)) % 4294967296), Value.int .u32 (((v.g.toNat : Int) + (g'.toNat : Int)) % 4294967296), Value.int .u32 (((v.h.toNat : Int) + (h'.toNat : Int)) % 4294967296)] rfl rfl T2.out I8.out O8.out ?_)
      have HR2 := Lib.hid (World.rangeAt_setCells_same wr (w.heap.size + 1 + 1) 0 (#[Value.int .u32 (((v.a.toNat : Int) + (a.toNat : Int)) % 4294967296), Value.int .u32 (((v.b.toNat : Int) + (b.toNat : Int)) % 4294967296), Value.int .u32 (((v.c.toNat : Int) + (c.toNat : Int)) % 4294967296), Value.int .u32 (((v.d.toNat : Int) + (d.toNat : Int)) % 4294967296), Value.int .u32 (((v.e.toNat : Int) + (e.toNat : Int)) % 4294967296), Value.int .u32 (((v.f.toNat : Int) + (f.toNat : Int)) % 4294967296), Value.int .u32 (((v.g.toNat : Int) + (g'.toNat : Int)) % 4294967296), Value.int .u32 (((v.h.toNat : Int) + (h'.toNat : Int)) % 4294967296)] : Array Value).toList (by simpa using T2.out))
      have HBB := Lib.hid (below_setCells (b := w.heap.size + 1 + 1) (by omega) (#[Value.int .u32 (((v.a.toNat : Int) + (a.toNat : Int)) % 4294967296), Value.int .u32 (((v.b.toNat : Int) + (b.toNat : Int)) % 4294967296), Value.int .u32 (((v.c.toNat : Int) + (c.toNat : Int)) % 4294967296), Value.int .u32 (((v.d.toNat : Int) + (d.toNat : Int)) % 4294967296), Value.int .u32 (((v.e.toNat : Int) + (e.toNat : Int)) % 4294967296), Value.int .u32 (((v.f.toNat : Int) + (f.toNat : Int)) % 4294967296), Value.int .u32 (((v.g.toNat : Int) + (g'.toNat : Int)) % 4294967296), Value.int .u32 (((v.h.toNat : Int) + (h'.toNat : Int)) % 4294967296)] : Array Value).toList 0 w wr HC3.out.below)
      refine bodyPost_ret (results_cell_mid rfl _ _ _ (w.heap.size + 1 + 1) 0 (#[Value.int .u32 (((v.a.toNat : Int) + (a.toNat : Int)) % 4294967296), Value.int .u32 (((v.b.toNat : Int) + (b.toNat : Int)) % 4294967296), Value.int .u32 (((v.c.toNat : Int) + (c.toNat : Int)) % 4294967296), Value.int .u32 (((v.d.toNat : Int) + (d.toNat : Int)) % 4294967296), Value.int .u32 (((v.e.toNat : Int) + (e.toNat : Int)) % 4294967296), Value.int .u32 (((v.f.toNat : Int) + (f.toNat : Int)) % 4294967296), Value.int .u32 (((v.g.toNat : Int) + (g'.toNat : Int)) % 4294967296), Value.int .u32 (((v.h.toNat : Int) + (h'.toNat : Int)) % 4294967296)] : Array Value).toList _ rfl HR2.out Tryd.underlying87 rfl I8.out) rfl ?_
      exact ⟨by rw [← EC.out], HBB.out⟩

end Go.Proofs.YtdbdlhgkhnenfaaDoor
/-
  Package hash: how a stream lies in memory; laws on copy of a string.
-/
namespace Go.Proofs.YtdbdlhgkhnenfaaDoor
open Go.RowKit
open Sha (wv)

/-- the cells of a stream -/
def strC (v : Sha.St) (blk : List UInt8) (n : Nat) : List Value := v.cells.toList ++ (blk.map bv ++ [.int .u64 (n : Int)])
theorem strC_len (v : Sha.St) (blk : List UInt8) (n : Nat) (h : blk.length = 64) : (strC v blk n).length = 73 := by
  unfold strC Sha.St.cells
  simp [h]
theorem cells_len (v : Sha.St) : v.cells.toList.length = 8 := rfl
theorem strC_one (v : Sha.St) (blk : List UInt8) (n : Nat) : ∀ x ∈ strC v blk n, x.oneCell' = true := by
  intro x hx
  unfold strC Sha.St.cells at hx
  simp only [List.mem_append, List.mem_cons, List.not_mem_nil, or_false, List.mem_map] at hx
  rcases hx with (rfl | rfl | rfl | rfl | rfl | rfl | rfl | rfl) | ⟨c, _, rfl⟩ | rfl <;> rfl
theorem strC_copy (v : Sha.St) (blk t : List UInt8) (n r : Nat) (h : blk.length = 64) (hr : r + t.length ≤ 64) :
    (strC v blk n).take (8 + r) ++ t.map bv ++ (strC v blk n).drop (8 + r + (t.map bv).length) = strC v (blk.take r ++ t ++ blk.drop (r + t.length)) n := by
  unfold strC
  have hA := cells_len v
  have e1 : (v.cells.toList ++ (blk.map bv ++ [Value.int .u64 (n : Int)])).take (8 + r) = v.cells.toList ++ (blk.take r).map bv := by
    rw [← hA, List.take_length_add_append, List.take_append_of_le_length (by rw [List.length_map]; omega), List.map_take]
  have e2 : (v.cells.toList ++ (blk.map bv ++ [Value.int .u64 (n : Int)])).drop (8 + r + (t.map bv).length) = (blk.drop (r + t.length)).map bv ++ [Value.int .u64 (n : Int)] := by
    rw [List.length_map, show 8 + r + t.length = v.cells.toList.length + (r + t.length) by rw [hA]; omega, List.drop_length_add_append, List.drop_append_of_le_length (by rw [List.length_map]; omega), List.map_drop]
  rw [e1, e2]
  simp
theorem strC_length (v : Sha.St) (blk : List UInt8) (n n' : Nat) (h : blk.length = 64) : (strC v blk n).set 72 (.int .u64 (n' : Int)) = strC v blk n' := by
  unfold strC
  have hA := cells_len v
  rw [List.set_append_right _ _ (by omega), List.set_append_right _ _ (by rw [List.length_map]; omega), hA, List.length_map, h]
  rfl
theorem strC_value (v v' : Sha.St) (blk : List UInt8) (n : Nat) : (strC v blk n).take 0 ++ v'.cells.toList ++ (strC v blk n).drop (0 + v'.cells.toList.length) = strC v' blk n := by
  unfold strC
  rw [List.take_zero, List.nil_append, Nat.zero_add, cells_len v', ← cells_len v, List.drop_left]
theorem Row.value {g : Nat} {v : Sha.St} {blk : List UInt8} {n : Nat} {w : World} (h : Row g (strC v blk n) w) : w.rangeAt g 0 v.cells.toList := by
  refine Row.sub h 0 _ (fun j hj => ?_)
  unfold strC
  rw [Nat.zero_add, List.getElem?_append_left hj]
theorem Row.blk {g : Nat} {v : Sha.St} {blk : List UInt8} {n : Nat} {w : World} (h : Row g (strC v blk n) w) : w.rangeAt g 8 (blk.map bv) := by
  refine Row.sub h 8 _ (fun j hj => ?_)
  unfold strC
  have hA := cells_len v
  rw [List.getElem?_append_right (by omega), hA, Nat.add_sub_cancel_left, List.getElem?_append_left hj]
theorem Row.length {g : Nat} {v : Sha.St} {blk : List UInt8} {n : Nat} {w : World} (h : Row g (strC v blk n) w) (hl : blk.length = 64) : w.cell? ⟨g, 72, none⟩ = some (.int .u64 (n : Int)) ∧ w.frozen? ⟨g, 72, none⟩ = false := by
  refine h 72 _ ?_
  unfold strC
  have hA := cells_len v
  rw [List.getElem?_append_right (by omega), hA, List.getElem?_append_right (by rw [List.length_map]; omega), List.length_map, hl]
  rfl

theorem run_copy_str {P : Program} (w : World) (dT sT ty e : TypeId) (hu : P.underlying dT = some (.slice e)) (hi : (P.info? e).map (·.size) = some 1) (b o dLen dCap : Nat) (s : ByteArray) (n : Nat) (hn : n = min s.size dLen) (ht : w.there b o n) :
    (Builtin.copy_ #[dT, sT] ty #[.slice (some ⟨b, o, none⟩) dLen dCap, .string s]).run P w = .ok (.int .i64 (n : Int)) (w.setCells b o ((s.data.toList.take n).map bv)) := by
  have hl : ((s.data.toList.take n).map bv).length = n := by
    rw [List.length_map, List.length_take, ba_len]; omega
  have hst := run_storeCells_cells (P := P) b o ((s.data.toList.take n).map bv) 0 w (fun j hj => by simpa using (ht j (by omega)).1) (fun j hj => by simpa using (ht j (by omega)).2) (bvs_one _)
  cases hq : P.info? e with
  | none => simp [hq] at hi
  | some i =>
    have hm : Nat.min s.size dLen = n := hn.symm
    have hst2 : (storeCells ⟨b, o, none⟩ (List.take n (List.map (fun b : UInt8 => Value.int .u8 (b.toNat : Int)) s.data.toList))).run P w = .ok () (w.setCells b o (List.take n (List.map bv s.data.toList))) := by
      rw [Nat.add_zero, List.map_take] at hst
      exact hst
    simp [Builtin.copy_, run_underlying hu, Builtin.lenOf, Builtin.firstCells, sizeOf, typeInfo, hq, hm, hst2, goInt]

end Go.Proofs.YtdbdlhgkhnenfaaDoor
/-
  Contracts of package hash: the empty stream; a text is added.
-/
namespace Go.Proofs.YtdbdlhgkhnenfaaDoor
open Go.RowKit
open Sha (wv)

/-- the post of a function that returns a stream with the message m -/
def StrPo (m : List UInt8) (w : World) (e : Ending) (w' : World) : Prop :=
  ∃ v blk, e = .returned (.agg (strC v blk m.length).toArray) ∧ Sha.Str Sha.consts m v blk ∧ Below w.heap.size w w'

def zeroC : Array Value := (strC ⟨0, 0, 0, 0, 0, 0, 0, 0⟩ (List.replicate 64 0) 0).toArray
theorem zero_stream (w : World) : (zeroValue 90).run Tryd.prog w = .ok (.agg zeroC) w := by kernel_rfl
theorem size_stream : (Tryd.prog.info? 90).map (·.size) = some 73 := by kernel_rfl

set_option maxRecDepth 1000000 in
set_option maxHeartbeats 400000 in
theorem hsBegin_any (w : World) (ht : Tab w) : Calls Tryd.prog 65 #[] w (StrPo [] w) := by
  have HT := Lib.hid ht.1
  have hz := zero_stream
  have I8 : (Tryd.prog.info? 87).map (·.size) = some (Sha.first.toList.map wv).length := by kernel_rfl
  have H8 := Lib.hid I8
  have SS := Lib.hid (show (Tryd.prog.info? 90).map (·.size) = some (strC Sha.first (List.replicate 64 0) 0).toArray.size from size_stream)
  have O := Lib.hid (all_oneCell_toArray (strC_one Sha.first (List.replicate 64 0) 0))
  clear ht I8
  go_enter Tryd.func65, Tryd.ntmps65
  go_wp2_with (first | (with_reducible refine wpList_load_mid rfl 87 (.global 0) rfl 0 0 rfl (Sha.first.toList.map wv) _ (World.rangeAt_alloc HT.out _) Tryd.underlying87 rfl H8.out ?_) | (with_reducible refine wpList_buildTo rfl 90 _ rfl _ rfl (strC Sha.first (List.replicate 64 0) 0).toArray (by kernel_rfl) ?_) | (with_reducible refine wpList_store_new w rfl 90 (.tmp 0) (.tmp 2) rfl _ (strC Sha.first (List.replicate 64 0) 0).toArray rfl rfl SS.out (by kernel_rfl) O.out ?_))
  have HR := Lib.hid (Row.newl w (strC Sha.first (List.replicate 64 0) 0) 90)
  refine bodyPost_ret (results_cell_mid rfl _ _ _ w.heap.size 0 (strC Sha.first (List.replicate 64 0) 0) _ rfl HR.out.range Tryd.underlying90 rfl SS.out) rfl ?_
  exact ⟨Sha.first, List.replicate 64 0, rfl, Sha.Str.begin _, (Below.refl _ _).alloc (Nat.le_refl _) _⟩

end Go.Proofs.YtdbdlhgkhnenfaaDoor
/-
  Contracts of package hash: a text is added to a stream.
-/
namespace Go.Proofs.YtdbdlhgkhnenfaaDoor
open Go.RowKit
open Sha (wv)

def strSz : Value → Nat
  | .string s => s.size
  | _ => 0
/-- the memory while a text is added -/
structure AddM (w : World) (M m' : List UInt8) (v' : Sha.St) (blk' : List UInt8) (s' : ByteArray) (wr : World) : Prop where
  eq : m' ++ s'.data.toList = M
  str : Sha.Str Sha.consts m' v' blk'
  row : Row w.heap.size (strC v' blk' m'.length) wr
  res : Row (w.heap.size + 1) zeroC.toList wr
  tab : Tab wr
  below : Below w.heap.size w wr
theorem two_rows (w : World) (a b : Array Value) (t1 t2 : TypeId) :
    Row w.heap.size a.toList ((w.alloc (.cells a t1)).alloc (.cells b t2)) ∧ Row (w.heap.size + 1) b.toList ((w.alloc (.cells a t1)).alloc (.cells b t2)) ∧
    Below w.heap.size w ((w.alloc (.cells a t1)).alloc (.cells b t2)) ∧ ((w.alloc (.cells a t1)).alloc (.cells b t2)).heap.size = w.heap.size + 2 := by
  have h1 := Row.new w a t1
  have h2 := Row.new (w.alloc (.cells a t1)) b t2
  have e1 : (w.alloc (.cells a t1)).heap.size = w.heap.size + 1 := by simp
  rw [e1] at h2
  exact ⟨h1.alloc _, h2, ((Below.refl _ _).alloc (Nat.le_refl _) _).alloc (by simp) _, by simp⟩
theorem extract_toList (s : ByteArray) (n : Nat) : (s.extract n s.size).data.toList = s.data.toList.drop n := by
  rw [ByteArray.data_extract, Array.toList_extract]
  simp only [List.extract]
  exact List.take_of_length_le (by rw [List.length_drop, ba_len]; exact Nat.le_refl _)
theorem extract_size (s : ByteArray) (n : Nat) : (s.extract n s.size).size = s.size - n := by simp
theorem zeroC_len : zeroC.toList.length = 73 := strC_len _ _ _ (by simp)

set_option maxRecDepth 1000000 in
set_option maxHeartbeats 1000000 in
theorem hsAdd_any (m : List UInt8) (v : Sha.St) (blk : List UInt8) (s : ByteArray) (w : World) (hs : Sha.Str Sha.consts m v blk) (hm : m.length + s.size ≤ 1099511627776) (ht : Tab w) :
    Calls Tryd.prog 66 #[.agg (strC v blk m.length).toArray, .string s] w (StrPo (m ++ s.data.toList) w) := by
  obtain ⟨q1, q2, q3, _⟩ := two_rows w (strC v blk m.length).toArray zeroC 90 90
  have A0 : Hid (AddM w (m ++ s.data.toList) m v blk s _) := Lib.hid ⟨rfl, hs, q1, q2, ht.below q3, q3⟩
  have hM : (m ++ s.data.toList).length ≤ 1099511627776 := by rw [List.length_append, ba_len]; exact hm
  generalize m ++ s.data.toList = M at *
  obtain ⟨S, hS⟩ : ∃ S, S = (strC v blk m.length).toArray := ⟨_, rfl⟩
  rw [← hS] at A0 ⊢
  have hz := zero_stream
  have HT := Lib.hid ht
  clear hS hs ht hm q1 q2 q3
  go_enter Tryd.func66, Tryd.ntmps66
  go_wp2_with fail
  go_loopw [1] (fun t wr => ∃ (m' : List UInt8) (s' : ByteArray) (v' : Sha.St) (blk' : List UInt8), t = .string s' ∧ AddM w M m' v' blk' s' wr) (fun t _ => strSz t)
  case atStart => exact ⟨m, s, v, blk, rfl, A0.out⟩
  case round =>
    obtain ⟨m', s', v', blk', rfl, hA⟩ := hrel
    have hl := hA.str.len
    have hMl : m'.length + s'.size ≤ 1099511627776 := by have h := congrArg List.length hA.eq; rw [List.length_append, ba_len] at h; omega
    by_cases hpos : 0 < s'.size
    · obtain ⟨c72, f72⟩ := hA.row.length hl
      obtain ⟨len, hlen⟩ : ∃ x, x = m'.length := ⟨_, rfl⟩
      obtain ⟨n, hn⟩ : ∃ x, x = min s'.size (64 - len % 64) := ⟨_, rfl⟩
      have hs := fun W : World => run_slice_arr (P := Tryd.prog) W 88 5 64 Tryd.underlying88 (by kernel_rfl) w.heap.size 8 .u64 ((len : Int) % 64) (len % 64) (by omega) (by omega)
      have hth := hA.row.there (8 + len % 64) n (by rw [strC_len _ _ _ hl]; omega)
      have hcp := fun ty : TypeId => run_copy_str (P := Tryd.prog) wr 43 9 ty 5 Tryd.underlying43 (by kernel_rfl) w.heap.size (8 + len % 64) (64 - len % 64) (64 - len % 64) s' n hn hth
      have htl : (s'.data.toList.take n).length = n := by rw [List.length_take, ba_len]; omega
      have hr1 := hA.row.setCells (8 + len % 64) ((s'.data.toList.take n).map bv) (by rw [strC_len _ _ _ hl, List.length_map, htl]; omega)
      rw [strC_copy _ _ _ _ _ hl (by rw [htl]; omega), htl] at hr1
      have hr2 := hA.res.far (b := w.heap.size) (by omega) (8 + len % 64) ((s'.data.toList.take n).map bv)
      have hb1 := below_setCells (b := w.heap.size) (Nat.le_refl _) ((s'.data.toList.take n).map bv) (8 + len % 64) w wr hA.below
      obtain ⟨W1, hW1⟩ : ∃ W1, W1 = wr.setCells w.heap.size (8 + len % 64) ((s'.data.toList.take n).map bv) := ⟨_, rfl⟩
      rw [← hW1] at hcp hr1 hr2 hb1
      clear hW1 hth
      rw [← hlen] at c72 hr1 hMl
      obtain ⟨t, ht⟩ : ∃ t, t = s'.data.toList.take n := ⟨_, rfl⟩
      rw [← ht] at hr1 htl
      obtain ⟨blk1, hblk1⟩ : ∃ b, b = blk'.take (len % 64) ++ t ++ blk'.drop (len % 64 + n) := ⟨_, rfl⟩
      rw [← hblk1] at hr1
      have hl1 : blk1.length = 64 := by
        rw [hblk1, List.length_append, List.length_append, List.length_take, List.length_drop, htl, hl]; omega
      obtain ⟨d72, g72⟩ := hr1.length hl1
      have hstep : if (len + n) % 64 = 0 then Sha.Str Sha.consts (m' ++ t) (Sha.block Sha.consts blk1 v') blk1 else Sha.Str Sha.consts (m' ++ t) v' blk1 := by
        split
        · rename_i h0
          have h1 : blk1 = blk'.take (m'.length % 64) ++ t := by
            rw [hblk1, List.drop_of_length_le (by omega), List.append_nil, hlen]
          rw [h1]
          exact hA.str.full t (by omega)
        · rename_i h0
          have h1 : blk1 = blk'.take (m'.length % 64) ++ t ++ blk'.drop (m'.length % 64 + t.length) := by rw [hblk1, hlen, htl]
          rw [h1]
          exact hA.str.part t (by omega)
      have heq : (m' ++ t) ++ (s'.data.toList.drop n) = M := by rw [ht, List.append_assoc, List.take_append_drop]; exact hA.eq
      have hml : (m' ++ t).length = len + n := by rw [List.length_append, htl, hlen]
      have hn1 : n ≤ s'.size := by omega
      have hn2 : 1 ≤ n := by omega
      have hn3 : n ≤ 64 := by omega
      have HST := Lib.hid hstep
      have HEQ := Lib.hid heq
      have HML := Lib.hid hml
      have HR1 := Lib.hid hr1
      have HR2 := Lib.hid hr2
      have HB1 := Lib.hid hb1
      have HL1 := Lib.hid hl1
      have HTW := Lib.hid ht
      clear hstep heq hml hr1 hr2 hb1 hl1 hblk1 htl hlen hA hl ht hn A0
      by_cases hf : (len + n) % 64 = 0
      · have hb : ((((len : Int) + (n : Int)) % 64) == 0) = true := by simp; omega
        have hr := HR1.out.set 72 (.int .u64 ((len + n : Nat) : Int)) (by rw [strC_len _ _ _ HL1.out]; omega)
        rw [strC_length _ _ _ _ HL1.out, Int.natCast_add] at hr
        have hbb := HB1.out.setCell (p := ⟨w.heap.size, 72, none⟩) (Nat.le_refl _) (.int .u64 ((len : Int) + (n : Int)))
        have HR := Lib.hid hr
        have HRR := Lib.hid (HR2.out.far (b := w.heap.size) (by omega) 72 [.int .u64 ((len : Int) + (n : Int))])
        have HBB := Lib.hid hbb
        clear hr hbb
        have V1 := Lib.hid HR.out.value
        have V2 := Lib.hid HR.out.blk
        have I8 := Lib.hid (show (Tryd.prog.info? 87).map (·.size) = some v'.cells.toList.length by kernel_rfl)
        have I64 := Lib.hid (show (Tryd.prog.info? 88).map (·.size) = some (blk1.map bv).length by rw [List.length_map, HL1.out]; kernel_rfl)
        go_wp2_with (first | (with_reducible refine wpList_load_mid rfl 87 (.tmp 29) rfl w.heap.size 0 rfl v'.cells.toList _ V1.out Tryd.underlying87 rfl I8.out ?_) | (with_reducible refine wpList_load_mid rfl 88 (.tmp 31) rfl w.heap.size 8 rfl (blk1.map bv) _ V2.out Tryd.underlying88 rfl I64.out ?_))
        refine (hsCompress_any v' blk1 _ HL1.out (HT.out.below HBB.out)).mono ?_
        rintro e w3 ⟨rfl, hb3⟩
        have HST2 : Hid (Sha.Str Sha.consts (m' ++ t) (Sha.block Sha.consts blk1 v') blk1) := Lib.hid (by have h := HST.out; rw [if_pos hf] at h; exact h)
        obtain ⟨v2, hv2⟩ : ∃ x, x = Sha.block Sha.consts blk1 v' := ⟨_, rfl⟩
        rw [← hv2] at HST2 ⊢
        have R3 := Lib.hid (HR.out.below hb3)
        have R4 := Lib.hid (HRR.out.below hb3)
        have B3 := Lib.hid (HBB.out.trans (hb3.mono (by
          have h := World.block_lt_of_cell? _ _ (HR.out.length HL1.out).1
          exact Nat.le_of_lt h)))
        clear hb3 hv2
        have T8 := Lib.hid (R3.out.there 0 v2.cells.size (by rw [strC_len _ _ _ HL1.out]; exact (by decide : 0 + 8 ≤ 73)))
        have J8 := Lib.hid (show (Tryd.prog.info? 87).map (·.size) = some v2.cells.size by kernel_rfl)
        have O8 := Lib.hid (show v2.cells.all (·.oneCell') = true by simp [Sha.St.cells, Value.oneCell'])
        go_wp2_with (with_reducible refine wpList_store_mid rfl 87 (.tmp 34) (.tmp 33) rfl w.heap.size 0 v2.cells rfl rfl T8.out J8.out O8.out ?_)
        have R5 := R3.out.setCells 0 v2.cells.toList (by rw [strC_len _ _ _ HL1.out]; exact (by decide : 0 + 8 ≤ 73))
        rw [strC_value] at R5
        go_frame
        go_roundw
        case rel =>
          refine ⟨m' ++ t, s'.extract n s'.size, v2, blk1, rfl, ⟨?_, HST2.out, ?_, R4.out.far (b := w.heap.size) (by omega) 0 _, HT.out.below (below_setCells (Nat.le_refl _) _ 0 _ _ B3.out), below_setCells (Nat.le_refl _) _ 0 _ _ B3.out⟩⟩
          · rw [extract_toList]; exact HEQ.out
          · rw [HML.out]; exact R5
        case measure =>
          show (s'.extract n s'.size).size < s'.size
          rw [extract_size]; omega
      · have hb : ((((len : Int) + (n : Int)) % 64) == 0) = false := by simp; omega
        go_wp2_with fail
        have hr := HR1.out.set 72 (.int .u64 ((len + n : Nat) : Int)) (by rw [strC_len _ _ _ HL1.out]; omega)
        rw [strC_length _ _ _ _ HL1.out] at hr
        have hbb := HB1.out.setCell (p := ⟨w.heap.size, 72, none⟩) (Nat.le_refl _) (.int .u64 ((len : Int) + (n : Int)))
        refine ⟨⟨m' ++ t, s'.extract n s'.size, v', blk1, rfl, ⟨?_, ?_, ?_, HR2.out.far (b := w.heap.size) (by omega) 72 [_], HT.out.below hbb, hbb⟩⟩, ?_⟩
        · rw [extract_toList]; exact HEQ.out
        · have h := HST.out; rw [if_neg hf] at h; exact h
        · rw [HML.out]; exact hr
        · show (s'.extract n s'.size).size < s'.size
          rw [extract_size]; omega
    · have h0 : s'.data.toList = [] := List.eq_nil_of_length_eq_zero (by rw [ba_len]; omega)
      have hmM : m' = M := by have h := hA.eq; rw [h0, List.append_nil] at h; exact h
      subst hmM
      have hr := hA.row
      have I73 := Lib.hid (show (Tryd.prog.info? 90).map (·.size) = some (strC v' blk' m'.length).length by rw [strC_len _ _ _ hl]; exact size_stream)
      have J73 := Lib.hid (show (Tryd.prog.info? 90).map (·.size) = some (strC v' blk' m'.length).toArray.size by rw [List.size_toArray, strC_len _ _ _ hl]; exact size_stream)
      have O73 := Lib.hid (all_oneCell_toArray (strC_one v' blk' m'.length))
      have T73 := Lib.hid (hA.res.there 0 (strC v' blk' m'.length).toArray.size (by rw [List.size_toArray, strC_len _ _ _ hl, zeroC_len]; omega))
      have RG := Lib.hid hr.range
      have HA := Lib.hid hA
      have hz0 : s'.size = 0 := by omega
      obtain ⟨C, hC⟩ : ∃ C, C = strC v' blk' m'.length := ⟨_, rfl⟩
      rw [← hC] at I73 J73 O73 T73 RG
      have HC := Lib.hid hC
      clear h0 hr hA hl hMl hC A0
      go_wp2_with (first | (with_reducible refine wpList_load_mid rfl 90 (.tmp 2) rfl w.heap.size 0 rfl C _ RG.out Tryd.underlying90 rfl I73.out ?_) | (with_reducible refine wpList_store_mid rfl 90 (.tmp 4) (.tmp 35) rfl (w.heap.size + 1) 0 C.toArray rfl rfl T73.out J73.out O73.out ?_))
      have HRR := Lib.hid (World.rangeAt_setCells_same wr (w.heap.size + 1) 0 C.toArray.toList (by simpa using T73.out))
      refine bodyPost_ret (results_cell_mid rfl _ _ _ (w.heap.size + 1) 0 C _ rfl HRR.out Tryd.underlying90 rfl I73.out) rfl ?_
      exact ⟨v', blk', by rw [HC.out], HA.out.str, below_setCells (by omega) _ 0 _ _ HA.out.below⟩

end Go.Proofs.YtdbdlhgkhnenfaaDoor
