/-
  Contracts of package hash: a block is compressed.
-/
import Derived.Test.YtfaadaahpjpfaaaDoorHsd
import Derived.Test.YtfaadaahpjpfaaaDoorShaMathc
import Derived.Test.YtfaadaahpjpfaaaDoorShaMathd
namespace Go.Proofs.YtfaadaahpjpfaaaDoor
open Go.RowKit
open Sha (wv)

/-- the tables of package hash lie as they were laid -/
def Tab (w : World) : Prop := w.rangeAt 1 0 (Sha.first.toList.map wv) ∧ w.rangeAt 2 0 (Sha.consts.map wv)
theorem Tab.below {w w' : World} (h : Tab w) (hb : Below w.heap.size w w') : Tab w' :=
  ⟨fun j v hj => (hb.cell (World.block_lt_of_cell? w _ (h.1 j v hj))).trans (h.1 j v hj), fun j v hj => (hb.cell (World.block_lt_of_cell? w _ (h.2 j v hj))).trans (h.2 j v hj)⟩
theorem Tab.const {w : World} (h : Tab w) (k : Nat) (hk : k < 64) : w.cell? ⟨2, k, none⟩ = some (.int .u32 ((Sha.at_ Sha.consts k).toNat : Int)) := by
  have h1 := h.2 k (wv (Sha.at_ Sha.consts k)) (by
    have hl : Sha.consts.length = 64 := rfl
    unfold Sha.at_
    rw [List.getElem?_map, List.getD_eq_getElem?_getD, List.getElem?_eq_getElem (by omega)]; rfl)
  rw [Nat.zero_add] at h1
  exact h1
theorem words_len (l : List UInt8) : (Sha.words l).length = 64 := by unfold Sha.words; rw [Sha.more_len, Sha.heads_len]
theorem words_at (l : List UInt8) (k : Nat) (hk : k < 64) : ((Sha.words l).map wv)[k]? = some (wv (Sha.at_ (Sha.words l) k)) := by
  have := words_len l
  unfold Sha.at_
  rw [List.getElem?_map, List.getD_eq_getElem?_getD, List.getElem?_eq_getElem (by omega)]; rfl

/-- the memory of a compression -/
structure Cmp (w : World) (v : Sha.St) (ws : List (BitVec 32)) (g : Nat) (wr : World) : Prop where
  p1 : Row w.heap.size v.cells.toList wr
  p3 : Row (w.heap.size + 1 + 1) (List.replicate 8 (Value.int .u32 0)) wr
  pw : Row g (ws.map wv) wr
  tab : Tab wr
  below : Below w.heap.size w wr
theorem Cmp.drewN {w : World} {v : Sha.St} {ws : List (BitVec 32)} {g : Nat} {wr : World} (h : Cmp w v ws g wr) (q : Nat) : Cmp w v ws g (wr.drewN q) :=
  ⟨h.p1.drewN q, h.p3.drewN q, h.pw.drewN q, h.tab, below_drewN h.below q⟩
theorem bits_not (x : BitVec 32) : bits .xor .u32 IntKind.u32.max (x.toNat : Int) = ((x ^^^ 0xffffffff).toNat : Int) := by
  have e : IntKind.u32.max = (((0xffffffff : BitVec 32).toNat : Nat) : Int) := by decide
  rw [e, Sha.bits_xor, BitVec.xor_comm]
theorem add_u32 (x y : BitVec 32) : ((x.toNat : Int) + (y.toNat : Int)) % 4294967296 = ((x + y).toNat : Int) := by
  rw [BitVec.toNat_add]; omega
theorem mixE_int (e f g h te k w : BitVec 32) :
    ((h.toNat : Int) + (te.toNat : Int) + bits .xor .u32 (bits .and .u32 (e.toNat : Int) (f.toNat : Int)) (bits .and .u32 (bits .xor .u32 IntKind.u32.max (e.toNat : Int)) (g.toNat : Int)) + (k.toNat : Int) + (w.toNat : Int)) % 4294967296
      = ((h + te + ((e &&& f) ^^^ ((e ^^^ 0xffffffff) &&& g)) + k + w).toNat : Int) := by
  rw [bits_not, Sha.bits_and, Sha.bits_and, Sha.bits_xor]
  generalize (e &&& f) ^^^ ((e ^^^ 0xffffffff) &&& g) = z
  simp only [BitVec.toNat_add]
  omega
theorem mixA_int (a b c ta : BitVec 32) :
    ((ta.toNat : Int) + bits .xor .u32 (bits .xor .u32 (bits .and .u32 (a.toNat : Int) (b.toNat : Int)) (bits .and .u32 (a.toNat : Int) (c.toNat : Int))) (bits .and .u32 (b.toNat : Int) (c.toNat : Int))) % 4294967296
      = ((ta + ((a &&& b) ^^^ (a &&& c) ^^^ (b &&& c))).toNat : Int) := by
  rw [Sha.bits_and, Sha.bits_and, Sha.bits_and, Sha.bits_xor, Sha.bits_xor, add_u32]
theorem hsTurned_q (x : BitVec 32) (i j k : Nat) (W : World) (hi : 1 ≤ i ∧ i ≤ 31) (hj : 1 ≤ j ∧ j ≤ 31) (hk : 1 ≤ k ∧ k ≤ 31) :
    Calls Tryd.prog 39 #[wv x, .int .i64 (i : Int), .int .i64 (j : Int), .int .i64 (k : Int)] W fun e w' => e = .returned (wv (turn3 x i j k)) ∧ ∃ q, w' = W.drewN q :=
  (hsTurned_any x i j k W hi hj hk).mono fun _ _ ⟨he, hw⟩ => ⟨he, 0, hw.symm⟩
theorem Row.newl (w : World) (l : List Value) (t : TypeId) : Row w.heap.size l (w.alloc (.cells l.toArray t)) := Row.new w l.toArray t
/-- the eight words of a state -/
theorem Row.st {g : Nat} {v : Sha.St} {w : World} (h : Row g v.cells.toList w) :
    w.cell? ⟨g, 0, none⟩ = some (.int .u32 (v.a.toNat : Int)) ∧ w.cell? ⟨g, 1, none⟩ = some (.int .u32 (v.b.toNat : Int)) ∧ w.cell? ⟨g, 2, none⟩ = some (.int .u32 (v.c.toNat : Int)) ∧ w.cell? ⟨g, 3, none⟩ = some (.int .u32 (v.d.toNat : Int)) ∧
    w.cell? ⟨g, 4, none⟩ = some (.int .u32 (v.e.toNat : Int)) ∧ w.cell? ⟨g, 5, none⟩ = some (.int .u32 (v.f.toNat : Int)) ∧ w.cell? ⟨g, 6, none⟩ = some (.int .u32 (v.g.toNat : Int)) ∧ w.cell? ⟨g, 7, none⟩ = some (.int .u32 (v.h.toNat : Int)) :=
  ⟨(h 0 _ rfl).1, (h 1 _ rfl).1, (h 2 _ rfl).1, (h 3 _ rfl).1, (h 4 _ rfl).1, (h 5 _ rfl).1, (h 6 _ rfl).1, (h 7 _ rfl).1⟩

set_option maxRecDepth 1000000 in
set_option maxHeartbeats 400000 in
theorem hsCompress_any (v : Sha.St) (blk : List UInt8) (w : World) (hn : blk.length = 64) (ht : Tab w) :
    Calls Tryd.prog 30 #[.agg v.cells, .agg (blk.map bv).toArray] w fun e w' => e = .returned (.agg (Sha.block Sha.consts blk v).cells) ∧ Below w.heap.size w w' := by
  have CS := Lib.hid (fun W : World => hsSchedule_any blk W hn)
  have hR1 : (Sha.block Sha.consts blk v).cells = (v.add (Sha.runs Sha.consts (Sha.words blk) v 64)).cells := rfl
  have hl := words_len blk
  rw [hR1]
  clear hR1
  generalize Sha.words blk = ws at *
  have I := Lib.hid (show (Tryd.prog.info? 31).map (·.size) = some (blk.map bv).length by rw [List.length_map, hn]; kernel_rfl)
  have I3 := Lib.hid (show (Tryd.prog.info? 54).map (·.size) = some (ws.map wv).toArray.size by rw [List.size_toArray, List.length_map, hl]; kernel_rfl)
  have O3 := Lib.hid (all_oneCell_toArray (cs := ws.map wv) (fun v hv => by obtain ⟨x, _, rfl⟩ := List.mem_map.1 hv; rfl))
  have S3 := Lib.hid (show (ws.map wv).toArray.size = 64 by rw [List.size_toArray, List.length_map, hl])
  obtain ⟨q1, q2, q3, q4, q5⟩ := three_rows w v.cells (blk.map bv).toArray #[Value.int .u32 0, Value.int .u32 0, Value.int .u32 0, Value.int .u32 0, Value.int .u32 0, Value.int .u32 0, Value.int .u32 0, Value.int .u32 0] 30 31 30
  have Q1 := Lib.hid q1
  have Q2 := Lib.hid q2
  have Q3 := Lib.hid (show Row (w.heap.size + 2) (List.replicate 8 (Value.int .u32 0)) _ from q3)
  have Q4 := Lib.hid q4
  have Q5 := Lib.hid q5
  clear q1 q2 q3 q4 q5
  have HN := Lib.hid hn
  have HT := Lib.hid ht
  clear hn ht
  have HL := Lib.hid hl
  clear hl
  obtain ⟨R, hR⟩ : ∃ R, R = (v.add (Sha.runs Sha.consts ws v 64)).cells := ⟨_, rfl⟩
  rw [← hR]
  have HR := Lib.hid hR
  clear hR
  obtain ⟨VC, hVC⟩ : ∃ R, R = v.cells := ⟨_, rfl⟩
  rw [← hVC] at Q1 Q2 Q3 Q4 Q5 ⊢
  have HVC := Lib.hid hVC
  clear hVC
  go_enter Tryd.func30, Tryd.ntmps30
  go_wp2_with (with_reducible refine wpList_load_mid rfl 31 (.tmp 3) rfl (w.heap.size + 1) 0 rfl (blk.map bv) _ Q2.out.range Tryd.underlying31 rfl I.out ?_)
  refine (CS.out _).mono ?_
  rintro e w1 ⟨rfl, hb⟩
  have HB := Lib.hid hb
  have hz : w.heap.size + 3 ≤ w1.heap.size := by have := hb.size; rw [Q5.out] at this; exact this
  clear hb
  go_wp2_with (with_reducible refine wpList_store_new w1 rfl 54 (.tmp 5) (.tmp 18) rfl _ (ws.map wv).toArray rfl rfl I3.out (Eq.trans (b := 64) (by kernel_rfl) S3.out.symm) O3.out ?_)
  go_frame
  obtain ⟨V, hV⟩ : ∃ V, V = w1.alloc (.cells (ws.map wv).toArray 54) := ⟨_, rfl⟩
  have hb := HB.out
  rw [Q5.out] at hb
  have hbV : Below w.heap.size w V := by rw [hV]; exact (Q4.out.trans (hb.mono (by omega))).alloc (by omega) _
  have hT : Tab V := HT.out.below hbV
  have hP1 : Row w.heap.size VC.toList V := by rw [hV]; exact (Q1.out.below HB.out).alloc _
  have hP3 : Row (w.heap.size + 2) (List.replicate 8 (Value.int .u32 0)) V := by rw [hV]; exact (Q3.out.below HB.out).alloc _
  have hPW : Row w1.heap.size (ws.map wv) V := by rw [hV]; exact Row.newl w1 (ws.map wv) 54
  have hsV : V.heap.size = w1.heap.size + 1 := by rw [hV]; simp
  rw [← hV]
  clear hV hb Q1 Q2 Q3 Q4 Q5 HB I I3 O3 S3
  rw [HVC.out] at hP1
  obtain ⟨c0, c1, c2, c3, c4, c5, c6, c7⟩ := hP1.st
  have P1 := Lib.hid hP1
  have P3 := Lib.hid hP3
  have PW := Lib.hid hPW
  have HT' := Lib.hid hT
  have HBV := Lib.hid hbV
  have SV := Lib.hid hsV
  have hgz : w1.heap.size < V.heap.size := by rw [hsV]; omega
  generalize hg : w1.heap.size = g at *
  have HC : Hid (Cmp w v ws g (V.drew)) := Lib.hid ⟨hP1, hP3, hPW, hT, below_drew hbV⟩
  clear hP1 hP3 hPW hT hbV hsV hg P1 P3 PW HT' HBV SV HT CS HVC HN
  go_quiet (fail)
  have HC2 : Hid (Cmp w v ws g (V.drewN nq)) := Lib.hid ⟨HC.out.p1, HC.out.p3, HC.out.pw, HC.out.tab, ⟨HC.out.below.os, HC.out.below.tape, HC.out.below.output, HC.out.below.size, HC.out.below.block⟩⟩
  generalize V.drewN nq = V2 at *
  clear HC c0 c1 c2 c3 c4 c5 c6 c7 hgz
  go_wp2_with fail
  go_loopw [6, 7, 8, 9, 10, 11, 12, 13, 35] (fun xa xb xc xd xe xf xg xh i wr => ∃ (k : Nat) (s : Sha.St), xa = wv s.a ∧ xb = wv s.b ∧ xc = wv s.c ∧ xd = wv s.d ∧ xe = wv s.e ∧ xf = wv s.f ∧ xg = wv s.g ∧ xh = wv s.h ∧ i = .int .i64 (k : Int) ∧ k ≤ 64 ∧ Sha.runs Sha.consts ws v k = s ∧ Cmp w v ws g wr) (fun _ _ _ _ _ _ _ _ i _ => 64 - (intOf i).toNat)
  case atStart => exact ⟨0, v, rfl, rfl, rfl, rfl, rfl, rfl, rfl, rfl, rfl, by omega, rfl, HC2.out⟩
  case round =>
    obtain ⟨k, s, rfl, rfl, rfl, rfl, rfl, rfl, rfl, rfl, rfl, hk, hs, hc⟩ := hrel
    by_cases hlt : k < 64
    · have k0 := hc.tab.const k hlt
      have w0 := (hc.pw k (wv (Sha.at_ ws k)) (by
        unfold Sha.at_
        rw [List.getElem?_map, List.getD_eq_getElem?_getD, List.getElem?_eq_getElem (by rw [HL.out]; exact hlt)]; rfl)).1
      have hs1 : Sha.runs Sha.consts ws v (k + 1) = Sha.round s (Sha.at_ Sha.consts k) (Sha.at_ ws k) := by rw [Sha.runs, hs]
      generalize Sha.at_ Sha.consts k = KK at k0 hs1
      generalize Sha.at_ ws k = WW at w0 hs1
      have HS1 := Lib.hid hs1
      have HC3 := Lib.hid hc
      clear hs hs1 hc HC2
      obtain ⟨a, b, c, d, e, f, g', h'⟩ := s
      have T1 := Lib.hid (fun W : World => hsTurned_q e 6 11 25 W (by omega) (by omega) (by omega))
      have T2 := Lib.hid (fun W : World => hsTurned_any a 2 13 22 W (by omega) (by omega) (by omega))
      obtain ⟨te, hte⟩ : ∃ t, t = turn3 e 6 11 25 := ⟨_, rfl⟩
      obtain ⟨ta, hta⟩ : ∃ t, t = turn3 a 2 13 22 := ⟨_, rfl⟩
      rw [← hte] at T1
      rw [← hta] at T2
      have HE := Lib.hid hte
      have HA := Lib.hid hta
      clear hte hta
      have hki : (k : Int) < 64 := by omega
      go_wp2_with fail
      go_quiet ((exact Calls.quiet_of (T1.out _)))
      go_wp2_with fail
      refine (T2.out _).mono ?_
      rintro e1 w1 ⟨rfl, rfl⟩
      go_wp2_with fail
      go_roundw
      case rel =>
        refine ⟨k + 1, Sha.round ⟨a, b, c, d, e, f, g', h'⟩ KK WW, ?_, rfl, rfl, rfl, ?_, rfl, rfl, rfl, by go_num, by omega, HS1.out, ?_⟩
        · rw [mixE_int, mixA_int, add_u32, HE.out, HA.out]; rfl
        · rw [mixE_int, add_u32, HE.out]; rfl
        · exact HC3.out.drewN nq
      case measure => simp [intOf]; omega
    · have hk64 : k = 64 := by omega
      subst hk64
      obtain ⟨c0, c1, c2, c3, c4, c5, c6, c7⟩ := hc.p1.st
      have HC3 := Lib.hid hc
      have HS := Lib.hid hs
      clear hs hc HC2
      obtain ⟨a, b, c, d, e, f, g', h'⟩ := s
      have T2 : Hid (wr.there (w.heap.size + 1 + 1) 0 (#[Value.int .u32 (((v.a.toNat : Int) + (a.toNat : Int)) % 4294967296), Value.int .u32 (((v.b.toNat : Int) + (b.toNat : Int)) % 4294967296), Value.int .u32 (((v.c.toNat : Int) + (c.toNat : Int)) % 4294967296), Value.int .u32 (((v.d.toNat : Int) + (d.toNat : Int)) % 4294967296), Value.int .u32 (((v.e.toNat : Int) + (e.toNat : Int)) % 4294967296), Value.int .u32 (((v.f.toNat : Int) + (f.toNat : Int)) % 4294967296), Value.int .u32 (((v.g.toNat : Int) + (g'.toNat : Int)) % 4294967296), Value.int .u32 (((v.h.toNat : Int) + (h'.toNat : Int)) % 4294967296)] : Array Value).size) := Lib.hid (HC3.out.p3.there 0 8 (by simp))
      have I8 : Hid ((Tryd.prog.info? 30).map (·.size) = some (#[Value.int .u32 (((v.a.toNat : Int) + (a.toNat : Int)) % 4294967296), Value.int .u32 (((v.b.toNat : Int) + (b.toNat : Int)) % 4294967296), Value.int .u32 (((v.c.toNat : Int) + (c.toNat : Int)) % 4294967296), Value.int .u32 (((v.d.toNat : Int) + (d.toNat : Int)) % 4294967296), Value.int .u32 (((v.e.toNat : Int) + (e.toNat : Int)) % 4294967296), Value.int .u32 (((v.f.toNat : Int) + (f.toNat : Int)) % 4294967296), Value.int .u32 (((v.g.toNat : Int) + (g'.toNat : Int)) % 4294967296), Value.int .u32 (((v.h.toNat : Int) + (h'.toNat : Int)) % 4294967296)] : Array Value).size) := Lib.hid (show (Tryd.prog.info? 30).map (·.size) = some 8 by kernel_rfl)
      have EC : Hid ((#[Value.int .u32 (((v.a.toNat : Int) + (a.toNat : Int)) % 4294967296), Value.int .u32 (((v.b.toNat : Int) + (b.toNat : Int)) % 4294967296), Value.int .u32 (((v.c.toNat : Int) + (c.toNat : Int)) % 4294967296), Value.int .u32 (((v.d.toNat : Int) + (d.toNat : Int)) % 4294967296), Value.int .u32 (((v.e.toNat : Int) + (e.toNat : Int)) % 4294967296), Value.int .u32 (((v.f.toNat : Int) + (f.toNat : Int)) % 4294967296), Value.int .u32 (((v.g.toNat : Int) + (g'.toNat : Int)) % 4294967296), Value.int .u32 (((v.h.toNat : Int) + (h'.toNat : Int)) % 4294967296)] : Array Value) = R) := Lib.hid (by
        rw [HR.out, HS.out]
        simp only [add_u32]
        rfl)
      have O8 : Hid ((#[Value.int .u32 (((v.a.toNat : Int) + (a.toNat : Int)) % 4294967296), Value.int .u32 (((v.b.toNat : Int) + (b.toNat : Int)) % 4294967296), Value.int .u32 (((v.c.toNat : Int) + (c.toNat : Int)) % 4294967296), Value.int .u32 (((v.d.toNat : Int) + (d.toNat : Int)) % 4294967296), Value.int .u32 (((v.e.toNat : Int) + (e.toNat : Int)) % 4294967296), Value.int .u32 (((v.f.toNat : Int) + (f.toNat : Int)) % 4294967296), Value.int .u32 (((v.g.toNat : Int) + (g'.toNat : Int)) % 4294967296), Value.int .u32 (((v.h.toNat : Int) + (h'.toNat : Int)) % 4294967296)] : Array Value).all (·.oneCell') = true) := Lib.hid (by simp [Value.oneCell'])
      go_wp2_with (with_reducible refine wpList_store_mid rfl 30 (.tmp 4) (.tmp 118) rfl (w.heap.size + 1 + 1) 0 #[Value.int .u32 (((v.a.toNat : Int) + (a.toNat : Int)) % 4294967296), Value.int .u32 (((v.b.toNat : Int) + (b.toNat : Int)) % 4294967296), Value.int .u32 (((v.c.toNat : Int) + (c.toNat : Int)) % 4294967296), Value.int .u32 (((v.d.toNat : Int) + (d.toNat : Int)) % 4294967296), Value.int .u32 (((v.e.toNat : Int) + (e.toNat : Int)) % 4294967296), Value.int .u32 (((v.f.toNat : Int) + (f.toNat : Int)) % 4294967296), Value.int .u32 (((v.g.toNat : Int) + (g'.toNat : Int)) % 4294967296), Value.int .u32 (((v.h.toNat : Int) + (h'.toNat : Int)) % 4294967296)] rfl rfl T2.out I8.out O8.out ?_)
      have HR2 := Lib.hid (World.rangeAt_setCells_same wr (w.heap.size + 1 + 1) 0 (#[Value.int .u32 (((v.a.toNat : Int) + (a.toNat : Int)) % 4294967296), Value.int .u32 (((v.b.toNat : Int) + (b.toNat : Int)) % 4294967296), Value.int .u32 (((v.c.toNat : Int) + (c.toNat : Int)) % 4294967296), Value.int .u32 (((v.d.toNat : Int) + (d.toNat : Int)) % 4294967296), Value.int .u32 (((v.e.toNat : Int) + (e.toNat : Int)) % 4294967296), Value.int .u32 (((v.f.toNat : Int) + (f.toNat : Int)) % 4294967296), Value.int .u32 (((v.g.toNat : Int) + (g'.toNat : Int)) % 4294967296), Value.int .u32 (((v.h.toNat : Int) + (h'.toNat : Int)) % 4294967296)] : Array Value).toList (by simpa using T2.out))
      have HBB := Lib.hid (below_setCells (b := w.heap.size + 1 + 1) (by omega) (#[Value.int .u32 (((v.a.toNat : Int) + (a.toNat : Int)) % 4294967296), Value.int .u32 (((v.b.toNat : Int) + (b.toNat : Int)) % 4294967296), Value.int .u32 (((v.c.toNat : Int) + (c.toNat : Int)) % 4294967296), Value.int .u32 (((v.d.toNat : Int) + (d.toNat : Int)) % 4294967296), Value.int .u32 (((v.e.toNat : Int) + (e.toNat : Int)) % 4294967296), Value.int .u32 (((v.f.toNat : Int) + (f.toNat : Int)) % 4294967296), Value.int .u32 (((v.g.toNat : Int) + (g'.toNat : Int)) % 4294967296), Value.int .u32 (((v.h.toNat : Int) + (h'.toNat : Int)) % 4294967296)] : Array Value).toList 0 w wr HC3.out.below)
      refine bodyPost_ret (results_cell_mid rfl _ _ _ (w.heap.size + 1 + 1) 0 (#[Value.int .u32 (((v.a.toNat : Int) + (a.toNat : Int)) % 4294967296), Value.int .u32 (((v.b.toNat : Int) + (b.toNat : Int)) % 4294967296), Value.int .u32 (((v.c.toNat : Int) + (c.toNat : Int)) % 4294967296), Value.int .u32 (((v.d.toNat : Int) + (d.toNat : Int)) % 4294967296), Value.int .u32 (((v.e.toNat : Int) + (e.toNat : Int)) % 4294967296), Value.int .u32 (((v.f.toNat : Int) + (f.toNat : Int)) % 4294967296), Value.int .u32 (((v.g.toNat : Int) + (g'.toNat : Int)) % 4294967296), Value.int .u32 (((v.h.toNat : Int) + (h'.toNat : Int)) % 4294967296)] : Array Value).toList _ rfl HR2.out Tryd.underlying30 rfl I8.out) rfl ?_
      exact ⟨by rw [← EC.out], HBB.out⟩

end Go.Proofs.YtfaadaahpjpfaaaDoor
