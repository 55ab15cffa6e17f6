/-
  Boxes that two boxes share; grids replaced along a box within theirs; the cells of a box counted by three loops; changes in the order of a shared box. (No program.)
-/
import Derived.Test.YtpapbbolefnkmaaDoorZB32
import Derived.Test.YtpapbbolefnkmaaDoorZB28
import Derived.Test.YtpapbbolefnkmaaDoorZB07
import Derived.Test.YtpapbbolefnkmaaDoorZB06
import Derived.Test.YtpapbbolefnkmaaDoorZB03
import Derived.Test.YtpapbbolefnkmaaDoorZB17
import Derived.Test.YtpapbbolefnkmaaDoorZB21
import Derived.Test.YtpapbbolefnkmaaDoorZB22
import Derived.Test.YtpapbbolefnkmaaDoorZB27
import Derived.Test.YtpapbbolefnkmaaDoorZB30
import Derived.Handy
import Derived.Laws.StructEq
namespace Go.Proofs.YtpapbbolefnkmaaDoor.Gm
open Go Go.Proofs.YtpapbbolefnkmaaDoor
set_option linter.unusedVariables false
def cap (B C : Bx) : Bx:=if Pt.meet B.a B.b B.c B.d B.e B.f C.a C.b C.c C.d C.e C.f then zb else ⟨max B.a C.a,max B.b C.b,max B.c C.c,min B.d C.d,min B.e C.e,min B.f C.f⟩
theorem inb_iff {B : Bx} {x y z : Int} : B.inb x y z = true ↔ (B.a ≤ x ∧ x < B.d) ∧ (B.b ≤ y ∧ y < B.e) ∧ (B.c ≤ z ∧ z < B.f):=Pt.inB_true
theorem cap_in {B C : Bx} {x y z : Int} : (cap B C).inb x y z = (B.inb x y z && C.inb x y z):=by
  rw [Bool.eq_iff_iff,Bool.and_eq_true,inb_iff,inb_iff,inb_iff]
  unfold cap
  cases h : Pt.meet B.a B.b B.c B.d B.e B.f C.a C.b C.c C.d C.e C.f
  · simp only [Bool.false_eq_true,if_false];omega
  · simp only [if_true,zb]
    have h2:=Pt.emp_true.1 h
    omega
theorem cap_rg {B C : Bx} (hB : B.rg) (hC : C.rg) : (cap B C).rg:=by
  unfold cap
  cases h : Pt.meet B.a B.b B.c B.d B.e B.f C.a C.b C.c C.d C.e C.f
  · simp only [Bool.false_eq_true,if_false]
    unfold Bx.rg rp at *
    simp only
    omega
  · simp only [if_true,zb];unfold Bx.rg rp;simp only;omega
theorem cap_vol (B C : Bx) : (cap B C).vol ≤ B.vol:=by
  unfold cap
  cases h : Pt.meet B.a B.b B.c B.d B.e B.f C.a C.b C.c C.d C.e C.f
  · simp only [Bool.false_eq_true,if_false]
    exact Pt.sub_vol h (Int.le_max_left _ _) (Int.le_max_left _ _) (Int.le_max_left _ _) (Int.min_le_left _ _) (Int.min_le_left _ _) (Int.min_le_left _ _)
  · simp only [if_true]
    have : zb.vol = 0:=rfl
    rw [this];exact vol_nn B
theorem al1 (p q : Int) : (p + 1) * q = p * q + q:=by rw [Int.add_mul,Int.one_mul]
/-! ### three loops over a box -/
def Bx.cn (B : Bx) (x y z : Int) : Nat:=if B.emp then 0 else (B.ix x y z).toNat
section
variable {B : Bx} {x y z : Int}
theorem cn_0 : B.cn B.a B.b B.c = 0:=by
  unfold Bx.cn Bx.ix Pt.idx
  cases B.emp <;> simp
theorem emp_in (h : B.inb x y z = true) : B.emp = false:=by
  have:=inb_iff.1 h
  exact Pt.emp_false.2 (by omega)
theorem cn_in (h : B.inb x y z = true) : (B.cn x y z : Int) = B.ix x y z ∧ B.cn x y z < B.vol.toNat ∧ B.ax (B.cn x y z) = x ∧ B.ay (B.cn x y z) = y ∧ B.az (B.cn x y z) = z ∧ B.cn (x + 1) y z = B.cn x y z + 1:=by
  have hb:=ix_bd h
  have e : (B.cn x y z : Int) = B.ix x y z:=by unfold Bx.cn;rw [emp_in h];simp;omega
  have h2:=at_ix h
  refine ⟨e,by omega,by rw [e];exact h2.1,by rw [e];exact h2.2.1,by rw [e];exact h2.2.2, ?_⟩
  have e2 : B.ix (x + 1) y z = B.ix x y z + 1:=by unfold Bx.ix Pt.idx;omega
  unfold Bx.cn;rw [emp_in h,e2];simp;omega
theorem cn_x (h0 : B.a ≤ x) (h1 : ¬ x < B.d) (h2 : x ≤ B.d ∨ x = B.a) : B.cn x y z = B.cn B.a (y + 1) z:=by
  unfold Bx.cn
  cases he : B.emp
  · have:=Pt.emp_false.1 he
    have hx : x = B.d:=by omega
    subst hx
    have : B.ix B.d y z = B.ix B.a (y + 1) z:=by
      unfold Bx.ix Pt.idx
      have e1 : (z - B.c) * (B.e - B.b) + (y + 1 - B.b) = ((z - B.c) * (B.e - B.b) + (y - B.b)) + 1:=by omega
      rw [e1,al1]
      generalize ((z - B.c) * (B.e - B.b) + (y - B.b)) * (B.d - B.a) = q
      omega
    rw [this]
  · rfl
theorem cn_y (h0 : B.b ≤ y) (h1 : ¬ y < B.e) (h2 : y ≤ B.e ∨ y = B.b) : B.cn B.a y z = B.cn B.a B.b (z + 1):=by
  unfold Bx.cn
  cases he : B.emp
  · have:=Pt.emp_false.1 he
    have hy : y = B.e:=by omega
    subst hy
    have : B.ix B.a B.e z = B.ix B.a B.b (z + 1):=by
      unfold Bx.ix Pt.idx
      have e1 : (z + 1 - B.c) * (B.e - B.b) + (B.b - B.b) = (z - B.c) * (B.e - B.b) + (B.e - B.b):=by
        rw [show z + 1 - B.c = (z - B.c) + 1 by omega,al1];omega
      rw [e1]
    rw [this]
  · rfl
theorem cn_z (h0 : B.c ≤ z) (h1 : ¬ z < B.f) (h2 : z ≤ B.f ∨ z = B.c) : B.cn B.a B.b z = B.vol.toNat:=by
  unfold Bx.cn
  cases he : B.emp
  · have:=Pt.emp_false.1 he
    have hz : z = B.f:=by omega
    subst hz
    have : B.ix B.a B.b B.f = B.vol:=by
      have he2 : Pt.emp B.a B.b B.c B.d B.e B.f = false:=he
      unfold Bx.ix Bx.vol Pt.idx Pt.vol Pt.sz
      rw [he2]
      simp only [Bool.false_eq_true,if_false,Int.sub_self,Int.add_zero]
      rw [Int.mul_assoc,Int.mul_comm (B.f - B.c),Int.mul_comm (B.e - B.b) (B.d - B.a)]
    rw [this];rfl
  · have : B.vol = 0:=Pt.vol_emp he
    rw [this];rfl
end
/-! ### grids replaced along a box within theirs -/
def upd2 (B D : Bx) (V : Int → Int → Int → Int) (l : List Int) (k : Nat) : List Int :=
  (List.range l.length).map fun (j : Nat)=>if D.inb (B.ax j) (B.ay j) (B.az j) && decide (D.ix (B.ax j) (B.ay j) (B.az j) < k) then V (B.ax j) (B.ay j) (B.az j) else l.getD j 0
section
variable {B D : Bx} {V : Int → Int → Int → Int} {l : List Int} {k : Nat}
theorem upd2_len : (upd2 B D V l k).length = l.length:=by simp [upd2]
theorem upd2_at {j : Nat} (h : j < l.length) : (upd2 B D V l k)[j]? = some (if D.inb (B.ax j) (B.ay j) (B.az j) && decide (D.ix (B.ax j) (B.ay j) (B.az j) < k) then V (B.ax j) (B.ay j) (B.az j) else l.getD j 0):=by
  unfold upd2;rw [List.getElem?_map,List.getElem?_range h];rfl
theorem upd2_zero : upd2 B D V l 0 = l:=by
  apply List.ext_getElem?
  intro j
  rcases Nat.lt_or_ge j l.length with h | h
  · rw [upd2_at h]
    have : (D.inb (B.ax j) (B.ay j) (B.az j) && decide (D.ix (B.ax j) (B.ay j) (B.az j) < (0 : Nat))) = false:=by
      cases hi : D.inb (B.ax j) (B.ay j) (B.az j)
      · rfl
      · have:=(ix_bd hi).1
        simp;omega
    rw [this,List.getD_eq_getElem?_getD,List.getElem?_eq_getElem h];rfl
  · rw [List.getElem?_eq_none h,List.getElem?_eq_none (by rw [upd2_len];exact h)]
theorem upd2_set (hl : l.length = B.vol.toNat) (hD : ∀ x y z,D.inb x y z = true → B.inb x y z = true) (hk : (k : Int) < D.vol) :
    upd2 B D V l (k + 1) = (upd2 B D V l k).set (B.ix (D.ax k) (D.ay k) (D.az k)).toNat (V (D.ax k) (D.ay k) (D.az k)):=by
  have hin:=at_in (B:=D) (k:=k) (by omega) hk
  have hix:=ix_at (B:=D) (k:=k) (by omega) hk
  have hB:=hD _ _ _ hin
  have hbd:=ix_bd hB
  apply List.ext_getElem?
  intro j
  rcases Nat.lt_or_ge j l.length with h | h
  · rw [upd2_at h,List.getElem?_set]
    by_cases hj : (B.ix (D.ax k) (D.ay k) (D.az k)).toNat = j
    · have e : B.ix (D.ax k) (D.ay k) (D.az k) = (j : Int):=by omega
      have ha:=at_ix hB
      rw [e] at ha
      rw [if_pos hj,if_pos (show (B.ix (D.ax k) (D.ay k) (D.az k)).toNat < (upd2 B D V l k).length by rw [upd2_len];omega),ha.1,ha.2.1,ha.2.2,hin,hix]
      simp
      intro hc;omega
    · rw [if_neg hj,upd2_at h]
      congr 1
      have hjB:=at_in (B:=B) (k:=(j : Int)) (by omega) (by omega)
      have hjx:=ix_at (B:=B) (k:=(j : Int)) (by omega) (by omega)
      cases hi : D.inb (B.ax j) (B.ay j) (B.az j)
      · rfl
      · have ne : D.ix (B.ax j) (B.ay j) (B.az j) ≠ (k : Int):=by
          intro e
          have ha:=at_ix hi
          rw [e] at ha
          rw [ha.1,ha.2.1,ha.2.2,hjx] at hj
          exact hj (by omega)
        have : decide (D.ix (B.ax j) (B.ay j) (B.az j) < ((k + 1 : Nat) : Int)) = decide (D.ix (B.ax j) (B.ay j) (B.az j) < (k : Int)):=by
          rw [decide_eq_decide];omega
        rw [this]
  · rw [List.getElem?_eq_none (by rw [upd2_len];exact h),List.getElem?_eq_none (by rw [List.length_set,upd2_len];exact h)]
theorem upd2_all (hl : l.length = B.vol.toNat) : upd2 B D V l D.vol.toNat = mk B (fun x y z=>if D.inb x y z then V x y z else get B l x y z):=by
  apply List.ext_getElem?
  intro j
  rcases Nat.lt_or_ge j l.length with h | h
  · rw [upd2_at h,mk_at (by omega),get_at hl h]
    congr 1
    cases hi : D.inb (B.ax j) (B.ay j) (B.az j)
    · rfl
    · have:=ix_bd hi
      rw [decide_eq_true (by omega)];rfl
  · rw [List.getElem?_eq_none (by rw [upd2_len];exact h),List.getElem?_eq_none (by rw [mk_len];omega)]
theorem fill_upd2 {C : Bx} {v : Int} (h : ok B l) : upd2 B (cap B C) (fun _ _ _=>v) l (cap B C).vol.toNat = fill B l C v:=by
  rw [upd2_all h.len];unfold fill
  exact mk_congr fun x y z hb=>by rw [cap_in,hb];rfl
theorem paste_upd2 {C : Bx} {m : List Int} (h : ok B l) : upd2 B (cap B C) (fun x y z=>get C m x y z) l (cap B C).vol.toNat = paste B l C m:=by
  rw [upd2_all h.len];unfold paste
  exact mk_congr fun x y z hb=>by rw [cap_in,hb];rfl
theorem cap_sub {C : Bx} : ∀ x y z,(cap B C).inb x y z = true → B.inb x y z = true:=fun x y z h=>by rw [cap_in,Bool.and_eq_true] at h;exact h.1
end
end Go.Proofs.YtpapbbolefnkmaaDoor.Gm
/-
  The functions of boxes, and those of their specification, with one answer each.
-/
namespace Go.Proofs.YtpapbbolefnkmaaDoor
open Go.RowKit
set_option linter.unusedVariables false
def iv : Bool → Int → Int
  | true,_=>0
  | false,x=>x
def hl : Bool → Bool → Int → Int → Int → Int
  | true,true,_,_,_=>0
  | true,false,_,b,_=>b
  | false,true,a,_,_=>a
  | false,false,_,_,m=>m
def xv : Bool → Int → Int
  | true,x=>x
  | false,_=>-1
theorem index_s (a1 a2 a3 a4 a5 a6 x1 x2 x3 : Int) (w : World) (b : (-1048575 ≤ a1 ∧ a1 ≤ 1048575) ∧ (-1048575 ≤ a2 ∧ a2 ≤ 1048575) ∧ (-1048575 ≤ a3 ∧ a3 ≤ 1048575) ∧ (-1048575 ≤ a4 ∧ a4 ≤ 1048575) ∧ (-1048575 ≤ a5 ∧ a5 ≤ 1048575) ∧ (-1048575 ≤ a6 ∧ a6 ≤ 1048575) ∧ (-1048575 ≤ x1 ∧ x1 ≤ 1048575) ∧ (-1048575 ≤ x2 ∧ x2 ≤ 1048575) ∧ (-1048575 ≤ x3 ∧ x3 ≤ 1048575)) :
    Calls Tryd.prog 85 #[.agg #[.int .i64 a1, .int .i64 a2, .int .i64 a3, .int .i64 a4, .int .i64 a5, .int .i64 a6], .agg #[.int .i64 x1, .int .i64 x2, .int .i64 x3]] w fun e w'=>e = .returned (.int .i64 (xv (Pt.inB x1 x2 x3 a1 a2 a3 a4 a5 a6) (Pt.idx x1 x2 x3 a1 a2 a3 a4 a5))) ∧ Below w.heap.size w w':=by
  cases h : Pt.inB x1 x2 x3 a1 a2 a3 a4 a5 a6 with
  | true=>exact index_t _ _ _ _ _ _ _ _ _ w b h
  | false=>exact index_f _ _ _ _ _ _ _ _ _ w h
end Go.Proofs.YtpapbbolefnkmaaDoor
/-
  Package point over boxes.
-/
namespace Go.Proofs.YtpapbbolefnkmaaDoor
open Go Go.RowKit
set_option linter.unusedVariables false
open Gm (Bx Ch)
theorem rg2 {B : Bx} (h : B.rg) : (-2097152 ≤ B.a ∧ B.a ≤ 2097152) ∧ (-2097152 ≤ B.b ∧ B.b ≤ 2097152) ∧ (-2097152 ≤ B.c ∧ B.c ≤ 2097152) ∧ (-2097152 ≤ B.d ∧ B.d ≤ 2097152) ∧ (-2097152 ≤ B.e ∧ B.e ≤ 2097152) ∧ (-2097152 ≤ B.f ∧ B.f ≤ 2097152):=by
  unfold Bx.rg Gm.rp at h;omega
theorem Gm.tx_tn (s x y z : Int) : Gm.tx s x y z = tnB (isS s) 1 s.toNat 0 x y z ∧ Gm.ty s x y z = tnB (isS s) 1 s.toNat 1 x y z ∧ Gm.tz s x y z = tnB (isS s) 1 s.toNat 2 x y z:=by
  unfold Gm.tx Gm.ty Gm.tz Gm.sy isS
  cases h : decide (0 ≤ s ∧ s < 48) <;> exact ⟨rfl,rfl,rfl⟩
section
variable (w : World)
theorem pvol_b (B : Bx) (h : B.rg) : Calls Tryd.prog 48 #[.agg #[.int .i64 B.a, .int .i64 B.b, .int .i64 B.c, .int .i64 B.d, .int .i64 B.e, .int .i64 B.f]] w fun e w'=>e = .returned (.int .i64 B.vol) ∧ Below w.heap.size w w' :=
  volume_any _ _ _ _ _ _ w ⟨h.1.1,h.1.2.1,h.1.2.2,h.2.1,h.2.2.1,h.2.2.2⟩
theorem pemp_b (B : Bx) : Calls Tryd.prog 47 #[.agg #[.int .i64 B.a, .int .i64 B.b, .int .i64 B.c, .int .i64 B.d, .int .i64 B.e, .int .i64 B.f]] w fun e w'=>e = .returned (.bool B.emp) ∧ Below w.heap.size w w' :=
  empty_any _ _ _ _ _ _ _ w rfl
theorem pindex_b (B : Bx) (x y z : Int) (h : B.rg) (hp : Gm.rp3 x y z) : Calls Tryd.prog 85 #[.agg #[.int .i64 B.a, .int .i64 B.b, .int .i64 B.c, .int .i64 B.d, .int .i64 B.e, .int .i64 B.f], .agg #[.int .i64 x, .int .i64 y, .int .i64 z]] w fun e w'=>e = .returned (.int .i64 (Gm.ixr B x y z)) ∧ Below w.heap.size w w':=by
  have e : Gm.ixr B x y z = xv (Pt.inB x y z B.a B.b B.c B.d B.e B.f) (Pt.idx x y z B.a B.b B.c B.d B.e):=by
    unfold Gm.ixr Bx.inb
    cases Pt.inB x y z B.a B.b B.c B.d B.e B.f <;> rfl
  rw [e];exact index_s _ _ _ _ _ _ _ _ _ w ⟨h.1.1,h.1.2.1,h.1.2.2,h.2.1,h.2.2.1,h.2.2.2,hp.1,hp.2.1,hp.2.2⟩
theorem pinter_b (B C : Bx) (h : B.rg) (k : C.rg) : Calls Tryd.prog 61 #[.agg #[.int .i64 B.a, .int .i64 B.b, .int .i64 B.c, .int .i64 B.d, .int .i64 B.e, .int .i64 B.f], .agg #[.int .i64 C.a, .int .i64 C.b, .int .i64 C.c, .int .i64 C.d, .int .i64 C.e, .int .i64 C.f]] w fun e w'=>e = .returned (.agg #[.int .i64 (Gm.cap B C).a, .int .i64 (Gm.cap B C).b, .int .i64 (Gm.cap B C).c, .int .i64 (Gm.cap B C).d, .int .i64 (Gm.cap B C).e, .int .i64 (Gm.cap B C).f]) ∧ Below w.heap.size w w':=by
  have h1:=rg2 h
  have h2:=rg2 k
  unfold Gm.cap
  cases hm : Pt.meet B.a B.b B.c B.d B.e B.f C.a C.b C.c C.d C.e C.f
  · exact inter_f _ _ _ _ _ _ _ _ _ _ _ _ w (by omega) hm
  · exact inter_t _ _ _ _ _ _ _ _ _ _ _ _ w (by omega) hm
theorem pturncell_b (s x y z : Int) (hT : Tab w) (hp : Gm.rp3 x y z) : Calls Tryd.prog 67 #[.int .i64 s, .agg #[.int .i64 x, .int .i64 y, .int .i64 z]] w fun e w'=>e = .returned (.agg #[.int .i64 (Gm.tx s x y z), .int .i64 (Gm.ty s x y z), .int .i64 (Gm.tz s x y z)]) ∧ Below w.heap.size w w':=by
  rw [(Gm.tx_tn s x y z).1,(Gm.tx_tn s x y z).2.1,(Gm.tx_tn s x y z).2.2]
  exact turncell_s s x y z w hT (by unfold Gm.rp3 Gm.rp at hp;omega)
theorem pturnbox_b (s : Int) (B : Bx) (hT : Tab w) (h : B.rg) : Calls Tryd.prog 64 #[.int .i64 s, .agg #[.int .i64 B.a, .int .i64 B.b, .int .i64 B.c, .int .i64 B.d, .int .i64 B.e, .int .i64 B.f]] w fun e w'=>e = .returned (.agg #[.int .i64 (Gm.tB s B).a, .int .i64 (Gm.tB s B).b, .int .i64 (Gm.tB s B).c, .int .i64 (Gm.tB s B).d, .int .i64 (Gm.tB s B).e, .int .i64 (Gm.tB s B).f]) ∧ Below w.heap.size w w':=by
  have c:=turnbox_s s B.a B.b B.c B.d B.e B.f w hT ⟨h.1.1,h.1.2.1,h.1.2.2,h.2.1,h.2.2.1,h.2.2.2⟩
  unfold isS at c
  unfold Gm.tB Gm.sy
  have e0 : B.emp = Pt.emp B.a B.b B.c B.d B.e B.f:=rfl
  rw [e0]
  cases hs : decide (0 ≤ s ∧ s < 48) <;> rw [hs] at c
  · exact c
  · cases he : Pt.emp B.a B.b B.c B.d B.e B.f <;> rw [he] at c
    · exact c
    · exact c
theorem pshift_b (B : Bx) (x y z : Int) (h : B.rg) (hp : Gm.rp3 x y z) : Calls Tryd.prog 73 #[.agg #[.int .i64 B.a, .int .i64 B.b, .int .i64 B.c, .int .i64 B.d, .int .i64 B.e, .int .i64 B.f], .agg #[.int .i64 x, .int .i64 y, .int .i64 z]] w fun e w'=>e = .returned (.agg #[.int .i64 (B.a + x), .int .i64 (B.b + y), .int .i64 (B.c + z), .int .i64 (B.d + x), .int .i64 (B.e + y), .int .i64 (B.f + z)]) ∧ Below w.heap.size w w':=by
  have h1:=rg2 h
  exact shift_any _ _ _ _ _ _ _ _ _ w (by unfold Gm.rp3 Gm.rp at hp;omega)
end
end Go.Proofs.YtpapbbolefnkmaaDoor
/-
  Differences in the order of the shared box are differences in the order of the first one. (No program.)
-/
namespace Go.Proofs.YtpapbbolefnkmaaDoor.Gm
open Go Go.Proofs.YtpapbbolefnkmaaDoor
set_option linter.unusedVariables false
theorem srt_eq {α : Type} {lt : α → α → Prop} (ha : ∀ a b,lt a b → ¬ lt b a) : ∀ {l m : List α},l.Pairwise lt → m.Pairwise lt → (∀ x,x ∈ l ↔ x ∈ m) → l = m
  | [],[],_,_,_=>rfl
  | [],b :: m,_,_,h=>by have:=(h b).2 List.mem_cons_self;cases this
  | a :: l,[],_,_,h=>by have:=(h a).1 List.mem_cons_self;cases this
  | a :: l,b :: m,hl,hm,h=>by
    have hl2:=List.pairwise_cons.1 hl
    have hm2:=List.pairwise_cons.1 hm
    have e : a = b:=by
      rcases List.mem_cons.1 ((h a).1 List.mem_cons_self) with e | h1
      · exact e
      · rcases List.mem_cons.1 ((h b).2 List.mem_cons_self) with e | h2
        · exact e.symm
        · exact absurd (hl2.1 b h2) (ha _ _ (hm2.1 a h1))
    subst e
    rw [srt_eq ha hl2.2 hm2.2 (fun x=>⟨fun hx=>?_,fun hx=>?_⟩)]
    · rcases List.mem_cons.1 ((h x).1 (List.mem_cons_of_mem _ hx)) with e | h1
      · subst e;exact absurd (hl2.1 x hx) (ha _ _ (hl2.1 x hx))
      · exact h1
    · rcases List.mem_cons.1 ((h x).2 (List.mem_cons_of_mem _ hx)) with e | h1
      · subst e;exact absurd (hm2.1 x hx) (ha _ _ (hm2.1 x hx))
      · exact h1
def plt (p q : Int × Int × Int) : Prop:=p.2.2 < q.2.2 ∨ (p.2.2 = q.2.2 ∧ (p.2.1 < q.2.1 ∨ (p.2.1 = q.2.1 ∧ p.1 < q.1)))
theorem plt_as (p q : Int × Int × Int) (h : plt p q) : ¬ plt q p:=by unfold plt at *;omega
def atp (B : Bx) (k : Nat) : Int × Int × Int:=(B.ax k,B.ay k,B.az k)
theorem dm_lt {i j X : Int} (hX : 0 < X) (h : i < j) : i / X < j / X ∨ (i / X = j / X ∧ i % X < j % X):=by
  have h1 : i / X ≤ j / X:=Int.ediv_le_ediv hX (by omega)
  rcases Int.lt_or_eq_of_le h1 with h2 | h2
  · exact .inl h2
  · refine .inr ⟨h2, ?_⟩
    have e1:=Int.mul_ediv_add_emod i X
    have e2:=Int.mul_ediv_add_emod j X
    rw [h2] at e1
    omega
theorem atp_lt {B : Bx} {i j : Nat} (h : i < j) (hj : (j : Int) < B.vol) : plt (atp B i) (atp B j):=by
  have he:=Pt.emp_false.1 (emp_of (B:=B) (by omega))
  have hX : 0 < B.d - B.a:=by omega
  have hY : 0 < B.e - B.b:=by omega
  unfold plt atp Bx.ax Bx.ay Bx.az
  simp only
  rcases dm_lt (i:=i) (j:=j) hX (by omega) with h1 | ⟨h1,h2⟩
  · rcases dm_lt hY h1 with h3 | ⟨h3,h4⟩
    · exact .inl (by omega)
    · exact .inr ⟨by omega, .inl (by omega)⟩
  · rw [h1]
    exact .inr ⟨rfl, .inr ⟨rfl,by omega⟩⟩
def pts (B : Bx) : List (Int × Int × Int):=(List.range B.vol.toNat).map (atp B)
theorem pts_srt (B : Bx) : (pts B).Pairwise plt:=by
  unfold pts
  rw [List.pairwise_map]
  refine (List.pairwise_lt_range (n:=B.vol.toNat)).imp_of_mem (fun {i j} hi hj h=>atp_lt h ?_)
  have:=List.mem_range.1 hj
  omega
theorem pts_mem {B : Bx} {p : Int × Int × Int} : p ∈ pts B ↔ B.inb p.1 p.2.1 p.2.2 = true:=by
  unfold pts
  rw [List.mem_map]
  constructor
  · rintro ⟨k,hk,rfl⟩
    have:=List.mem_range.1 hk
    exact at_in (by omega) (by omega)
  · intro h
    have h1:=ix_bd h
    have h2:=at_ix h
    refine ⟨(B.ix p.1 p.2.1 p.2.2).toNat,List.mem_range.2 (by omega), ?_⟩
    have e : ((B.ix p.1 p.2.1 p.2.2).toNat : Int) = B.ix p.1 p.2.1 p.2.2:=by omega
    unfold atp
    rw [e,h2.1,h2.2.1,h2.2.2]
theorem pts_cap (B C : Bx) : pts (cap B C) = (pts B).filter (fun p=>C.inb p.1 p.2.1 p.2.2):=by
  refine srt_eq plt_as (pts_srt _) ((pts_srt B).filter _) (fun p=>?_)
  rw [List.mem_filter,pts_mem,pts_mem,cap_in,Bool.and_eq_true]
theorem fm_congr {α β : Type} {f g : α → Option β} : ∀ {l : List α},(∀ x ∈ l,f x = g x) → l.filterMap f = l.filterMap g
  | [],_=>rfl
  | a :: l,h=>by rw [List.filterMap_cons,List.filterMap_cons,h a List.mem_cons_self,fm_congr (fun x hx=>h x (List.mem_cons_of_mem _ hx))]
def dfc1 (B : Bx) (l : List Int) (C : Bx) (m : List Int) (p : Int × Int × Int) : Option Ch :=
  if get B l p.1 p.2.1 p.2.2 = get C m p.1 p.2.1 p.2.2 then none else some ⟨p.1,p.2.1,p.2.2,get B l p.1 p.2.1 p.2.2,get C m p.1 p.2.1 p.2.2⟩
def dfc (B : Bx) (l : List Int) (C : Bx) (m : List Int) (k : Nat) : List Ch:=(List.range k).filterMap (fun j=>dfc1 B l C m (atp (cap B C) j))
section
variable {B C : Bx} {l m : List Int} {k : Nat}
theorem dfc_eq (h : get B l ((cap B C).ax k) ((cap B C).ay k) ((cap B C).az k) = get C m ((cap B C).ax k) ((cap B C).ay k) ((cap B C).az k)) : dfc B l C m (k + 1) = dfc B l C m k:=by
  unfold dfc
  rw [List.range_succ,List.filterMap_append]
  have : dfc1 B l C m (atp (cap B C) k) = none:=if_pos h
  simp [this]
theorem dfc_ne (h : ¬ get B l ((cap B C).ax k) ((cap B C).ay k) ((cap B C).az k) = get C m ((cap B C).ax k) ((cap B C).ay k) ((cap B C).az k)) :
    dfc B l C m (k + 1) = dfc B l C m k ++ [⟨(cap B C).ax k,(cap B C).ay k,(cap B C).az k,get B l ((cap B C).ax k) ((cap B C).ay k) ((cap B C).az k),get C m ((cap B C).ax k) ((cap B C).ay k) ((cap B C).az k)⟩]:=by
  unfold dfc
  rw [List.range_succ,List.filterMap_append]
  have : dfc1 B l C m (atp (cap B C) k) = some ⟨(cap B C).ax k,(cap B C).ay k,(cap B C).az k,get B l ((cap B C).ax k) ((cap B C).ay k) ((cap B C).az k),get C m ((cap B C).ax k) ((cap B C).ay k) ((cap B C).az k)⟩:=if_neg h
  simp [this]
theorem dfc_all (h : ok B l) : dfc B l C m (cap B C).vol.toNat = dif B l C m l.length:=by
  have e1 : dfc B l C m (cap B C).vol.toNat = (pts (cap B C)).filterMap (dfc1 B l C m):=by
    unfold dfc pts;rw [List.filterMap_map];rfl
  have e2 : dif B l C m l.length = (pts B).filterMap (fun p=>if C.inb p.1 p.2.1 p.2.2 = true then dfc1 B l C m p else none):=by
    unfold dif pts
    rw [h.len,List.filterMap_map]
    refine fm_congr (fun j hj=>?_)
    have hj2 : j < l.length:=by have:=List.mem_range.1 hj;have:=h.len;omega
    unfold dif1 dfc1 atp
    simp only [Function.comp]
    rw [get_at h.len hj2]
    cases hc : C.inb (B.ax j) (B.ay j) (B.az j)
    · rfl
    · generalize get C m (B.ax j) (B.ay j) (B.az j) = u
      generalize l.getD j 0 = v
      by_cases e : v = u
      · subst e;simp
      · have e2 : ¬ u = v:=fun h_=>e h_.symm
        simp [e,e2]
  rw [e1,e2,pts_cap,List.filterMap_filter]
end
end Go.Proofs.YtpapbbolefnkmaaDoor.Gm
