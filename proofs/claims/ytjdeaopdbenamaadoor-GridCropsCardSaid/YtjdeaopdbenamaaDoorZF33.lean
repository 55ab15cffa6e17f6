/-
  Points near to the origin; few grids.
-/
import Derived.Test.YtjdeaopdbenamaaDoorZF30
import Derived.Test.YtjdeaopdbenamaaDoorZF31
import Derived.Test.YtjdeaopdbenamaaDoorZF06
import Derived.Test.YtjdeaopdbenamaaDoorZF07
import Derived.Test.YtjdeaopdbenamaaDoorZF03
import Derived.Test.YtjdeaopdbenamaaDoorZF08
import Derived.Test.YtjdeaopdbenamaaDoorZF18
import Derived.Test.YtjdeaopdbenamaaDoorZF25
import Derived.Test.YtjdeaopdbenamaaDoorZF24
import Derived.Test.YtjdeaopdbenamaaDoorZF29
import Derived.Test.YtjdeaopdbenamaaDoorZF32
import Derived.Test.YtjdeaopdbenamaaDoorZF28
import Derived.Handy
import Derived.Laws.StructEq
namespace Go.Proofs.YtjdeaopdbenamaaDoor
open Go Go.RowKit
set_option linter.unusedVariables false
open Gm (Bx Ch)
abbrev Gm.P3:=Int × Int × Int
def pcs (l : List Gm.P3) : List Value:=l.flatMap fun p=>[.int .i64 p.1, .int .i64 p.2.1, .int .i64 p.2.2]
theorem pcs_len (l : List Gm.P3) : (pcs l).length = l.length * 3:=by
  induction l with
  | nil=>rfl
  | cons c r ih=>simp only [pcs,List.flatMap_cons,List.length_append] at ih ⊢;rw [ih];simp;omega
def Gm.pat (l : List Gm.P3) (k : Nat) : Gm.P3:=l.getD k (0,0,0)
theorem pcs_at : ∀ {l : List Gm.P3} {k : Nat},k < l.length → ((pcs l).drop (k * 3)).take 3 = [.int .i64 (Gm.pat l k).1, .int .i64 (Gm.pat l k).2.1, .int .i64 (Gm.pat l k).2.2]
  | c :: r,0,_=>by simp [pcs,Gm.pat]
  | c :: r,k + 1,h=>by
    have ih:=pcs_at (l:=r) (k:=k) (by simpa using h)
    have e : pcs (c :: r) = [.int .i64 c.1, .int .i64 c.2.1, .int .i64 c.2.2] ++ pcs r:=rfl
    have e2 : (([.int .i64 c.1, .int .i64 c.2.1, .int .i64 c.2.2] : List Value) ++ pcs r).drop ((k + 1) * 3) = (pcs r).drop (k * 3):=by
      rw [show (k + 1) * 3 = k * 3 + 1 + 1 + 1 by omega];rfl
    rw [e,e2,ih];rfl
theorem SL.pnt {w : World} {b o n c : Nat} {l : List Gm.P3} (h : SL w 3 (some ⟨b,o,none⟩) n c (pcs l)) (k : Nat) (hk : k < l.length) : w.rangeAt b (o + k * 3) [.int .i64 (Gm.pat l k).1, .int .i64 (Gm.pat l k).2.1, .int .i64 (Gm.pat l k).2.2]:=h.elem (k * 3) (ds:=[.int .i64 (Gm.pat l k).1, .int .i64 (Gm.pat l k).2.1, .int .i64 (Gm.pat l k).2.2]) (pcs_at hk)
namespace Gm
def n1k (x : Int) : Prop:=-10000 ≤ x ∧ x ≤ 10000
instance (x : Int) : Decidable (n1k x):=by unfold n1k;infer_instance
def near1 (p : P3) : Bool:=decide (n1k p.1 ∧ n1k p.2.1 ∧ n1k p.2.2)
def nears (l : List P3) : Bool:=Ff.al (fun k=>near1 (pat l k)) l.length
theorem nears_iff {l : List P3} : nears l = true ↔ ∀ p ∈ l,near1 p = true:=by
  unfold nears
  rw [Ff.al_iff]
  constructor
  · intro h p hp
    obtain ⟨i,hi,rfl⟩:=List.getElem_of_mem hp
    have:=h i hi
    unfold pat at this
    rwa [List.getD_eq_getElem?_getD,List.getElem?_eq_getElem hi] at this
  · intro h i hi
    refine h _ ?_
    unfold pat
    rw [List.getD_eq_getElem?_getD,List.getElem?_eq_getElem hi];exact List.getElem_mem hi
theorem near1_rp {x y z : Int} (h : near1 (x,y,z) = true) : rp3 x y z:=by
  have:=of_decide_eq_true h
  unfold n1k at this
  unfold rp3 rp
  simp only at this
  omega
def fw (B : Bx) (l : List Int) : Bool:=decide (l.length ≤ 1000) && (decide (vld B l) && nears [(B.a,B.b,B.c),(B.d,B.e,B.f)])
theorem fw_yes {B : Bx} {l : List Int} (h1 : l.length ≤ 1000) (h2 : vld B l) (h3 : nears [(B.a,B.b,B.c),(B.d,B.e,B.f)] = true) : fw B l = true:=by
  unfold fw;rw [decide_eq_true h1,decide_eq_true h2,h3];rfl
theorem fw_1 {B : Bx} {l : List Int} (h1 : ¬ l.length ≤ 1000) : fw B l = false:=by unfold fw;rw [decide_eq_false h1];rfl
theorem fw_2 {B : Bx} {l : List Int} (h1 : ¬ vld B l) : fw B l = false:=by unfold fw;rw [decide_eq_false h1];simp
theorem fw_3 {B : Bx} {l : List Int} (h1 : nears [(B.a,B.b,B.c),(B.d,B.e,B.f)] = false) : fw B l = false:=by unfold fw;rw [h1];simp
theorem fw_of {B : Bx} {l : List Int} (h : fw B l = true) : l.length ≤ 1000 ∧ vld B l ∧ near1 (B.a,B.b,B.c) = true ∧ near1 (B.d,B.e,B.f) = true:=by
  unfold fw at h
  simp only [Bool.and_eq_true,decide_eq_true_eq] at h
  have h3:=nears_iff.1 h.2.2
  exact ⟨h.1,h.2.1,h3 _ (by simp),h3 _ (by simp)⟩
end Gm
end Go.Proofs.YtjdeaopdbenamaaDoor
/-
  What stands in a cell of grids written, pasted; writing the differences is pasting.
-/
namespace Go.Proofs.YtjdeaopdbenamaaDoor.Gm
open Go Go.Proofs.YtjdeaopdbenamaaDoor
set_option linter.unusedVariables false
section
variable {B C : Bx} {l m : List Int} {x y z x' y' z' o v : Int} {k : Nat}
theorem get_out (h : B.inb x y z = false) : get B l x y z = 0:=by unfold get;rw [h];rfl
theorem get_paste : get B (paste B l C m) x y z = if B.inb x y z && C.inb x y z then get C m x y z else get B l x y z:=by
  unfold paste
  rw [get_mk]
  cases hb : B.inb x y z
  · rw [get_out hb];rfl
  · cases C.inb x y z <;> rfl
theorem ok_paste (h : ok B l) : ok B (paste B l C m):=⟨h.rg,by unfold paste;rw [mk_len],h.max⟩
end
end Go.Proofs.YtjdeaopdbenamaaDoor.Gm
/-
  The functions of boxes, and those of their specification, with one answer each.
-/
namespace Go.Proofs.YtjdeaopdbenamaaDoor
open Go.RowKit
set_option linter.unusedVariables false
def iv : Bool → Int → Int
  | true,_=>0
  | false,x=>x
def hl : Bool → Bool → Int → Int → Int → Int
  | true,true,_,_,_=>0
  | true,false,_,b,_=>b
  | false,true,a,_,_=>a
  | false,false,_,_,m=>m
def xv : Bool → Int → Int
  | true,x=>x
  | false,_=>-1
def conB (a1 a2 a3 a4 a5 a6 b1 b2 b3 b4 b5 b6 : Int) : Bool:=Pt.emp b1 b2 b3 b4 b5 b6 || (!(Pt.meet a1 a2 a3 a4 a5 a6 b1 b2 b3 b4 b5 b6) && decide (max a1 b1 = b1 ∧ max a2 b2 = b2 ∧ max a3 b3 = b3 ∧ min a4 b4 = b4 ∧ min a5 b5 = b5 ∧ min a6 b6 = b6))
theorem index_s (a1 a2 a3 a4 a5 a6 x1 x2 x3 : Int) (w : World) (b : (-1048575 ≤ a1 ∧ a1 ≤ 1048575) ∧ (-1048575 ≤ a2 ∧ a2 ≤ 1048575) ∧ (-1048575 ≤ a3 ∧ a3 ≤ 1048575) ∧ (-1048575 ≤ a4 ∧ a4 ≤ 1048575) ∧ (-1048575 ≤ a5 ∧ a5 ≤ 1048575) ∧ (-1048575 ≤ a6 ∧ a6 ≤ 1048575) ∧ (-1048575 ≤ x1 ∧ x1 ≤ 1048575) ∧ (-1048575 ≤ x2 ∧ x2 ≤ 1048575) ∧ (-1048575 ≤ x3 ∧ x3 ≤ 1048575)) :
    Calls Tryd.prog 85 #[.agg #[.int .i64 a1, .int .i64 a2, .int .i64 a3, .int .i64 a4, .int .i64 a5, .int .i64 a6], .agg #[.int .i64 x1, .int .i64 x2, .int .i64 x3]] w fun e w'=>e = .returned (.int .i64 (xv (Pt.inB x1 x2 x3 a1 a2 a3 a4 a5 a6) (Pt.idx x1 x2 x3 a1 a2 a3 a4 a5))) ∧ Below w.heap.size w w':=by
  cases h : Pt.inB x1 x2 x3 a1 a2 a3 a4 a5 a6 with
  | true=>exact index_t _ _ _ _ _ _ _ _ _ w b h
  | false=>exact index_f _ _ _ _ _ _ _ _ _ w h
theorem rcontains_s (a1 a2 a3 a4 a5 a6 b1 b2 b3 b4 b5 b6 : Int) (w : World) (b : (-1048575 ≤ a1 ∧ a1 ≤ 1048575) ∧ (-1048575 ≤ a2 ∧ a2 ≤ 1048575) ∧ (-1048575 ≤ a3 ∧ a3 ≤ 1048575) ∧ (-1048575 ≤ a4 ∧ a4 ≤ 1048575) ∧ (-1048575 ≤ a5 ∧ a5 ≤ 1048575) ∧ (-1048575 ≤ a6 ∧ a6 ≤ 1048575) ∧ (-1048575 ≤ b1 ∧ b1 ≤ 1048575) ∧ (-1048575 ≤ b2 ∧ b2 ≤ 1048575) ∧ (-1048575 ≤ b3 ∧ b3 ≤ 1048575) ∧ (-1048575 ≤ b4 ∧ b4 ≤ 1048575) ∧ (-1048575 ≤ b5 ∧ b5 ≤ 1048575) ∧ (-1048575 ≤ b6 ∧ b6 ≤ 1048575)) :
    Calls Tryd.prog 34 #[.agg #[.int .i64 a1, .int .i64 a2, .int .i64 a3, .int .i64 a4, .int .i64 a5, .int .i64 a6], .agg #[.int .i64 b1, .int .i64 b2, .int .i64 b3, .int .i64 b4, .int .i64 b5, .int .i64 b6]] w fun e w'=>e = .returned (.bool (conB a1 a2 a3 a4 a5 a6 b1 b2 b3 b4 b5 b6)) ∧ Below w.heap.size w w':=by
  unfold conB
  cases h : Pt.emp b1 b2 b3 b4 b5 b6 with
  | true =>
    have h1:=Pt.emp_true.1 h
    have k : Pt.meet a1 a2 a3 a4 a5 a6 b1 b2 b3 b4 b5 b6 = true:=by unfold Pt.meet;exact Pt.emp_true.2 (by omega)
    exact rcontains_tt _ _ _ _ _ _ _ _ _ _ _ _ w b k (by rw [Pt.vol_emp h];decide)
  | false =>
    cases k : Pt.meet a1 a2 a3 a4 a5 a6 b1 b2 b3 b4 b5 b6 with
    | true=>exact rcontains_tf _ _ _ _ _ _ _ _ _ _ _ _ w b k (fun e=>by have:=Pt.vol_pos h;rw [← e] at this;exact absurd this (by decide))
    | false =>
      by_cases hq : max a1 b1 = b1 ∧ max a2 b2 = b2 ∧ max a3 b3 = b3 ∧ min a4 b4 = b4 ∧ min a5 b5 = b5 ∧ min a6 b6 = b6
      · rw [decide_eq_true hq];exact rcontains_ft _ _ _ _ _ _ _ _ _ _ _ _ w b k (by rw [hq.1,hq.2.1,hq.2.2.1,hq.2.2.2.1,hq.2.2.2.2.1,hq.2.2.2.2.2])
      · rw [decide_eq_false hq];exact rcontains_ff _ _ _ _ _ _ _ _ _ _ _ _ w b k (fun e=>hq (Pt.sub_vol_eq k (by omega) (by omega) (by omega) (by omega) (by omega) (by omega) e))

end Go.Proofs.YtjdeaopdbenamaaDoor
/-
  Grids cropped: what a cell of the result is; cropped twice; shifted forth and back.
-/
namespace Go.Proofs.YtjdeaopdbenamaaDoor.Gm
open Go Go.Proofs.YtjdeaopdbenamaaDoor
set_option linter.unusedVariables false
variable {B F H : Bx} {l : List Int} {x y z : Int}
theorem nE_zero (h : F.rg) (hv : F.vol ≤ 2097152) : nE F 0 = 0:=by
  by_cases h0 : F.vol = 0
  · exact (new_emp ⟨h,by unfold mtl;omega⟩ h0).1
  · exact (new_ok ⟨h,by unfold mtl;omega⟩ h0 (by omega)).1
theorem vol_pos_in (h : F.inb x y z = true) : 0 < F.vol:=by
  have:=ix_bd h;omega
theorem nB_in (h : F.rg) (hv : F.vol ≤ 2097152) : (nB F 0).inb x y z = F.inb x y z:=by
  by_cases h0 : F.vol = 0
  · rw [(new_emp (m:=0) ⟨h,by unfold mtl;omega⟩ h0).2.1]
    have e : F.inb x y z = false:=by
      cases e : F.inb x y z
      · rfl
      · have:=vol_pos_in e;omega
    rw [e]
    cases e2 : zb.inb x y z
    · rfl
    · have:=vol_pos_in e2;exact absurd this (by decide)
  · rw [(new_ok (m:=0) ⟨h,by unfold mtl;omega⟩ h0 (by omega)).2.1]
theorem get_nil (n : Nat) : get F (List.replicate n 0) x y z = 0:=by
  unfold get
  cases F.inb x y z
  · rfl
  · rw [if_pos rfl,List.getD_eq_getElem?_getD,List.getElem?_replicate]
    split <;> rfl
theorem get_new : get (nB F 0) (nL F 0) x y z = 0:=by
  unfold nL
  cases nok F 0
  · unfold get;split <;> rfl
  · exact get_nil _
theorem get_crop (h : F.rg) (hv : F.vol ≤ 2097152) : get (nB F 0) (paste (nB F 0) (nL F 0) B l) x y z = if F.inb x y z then get B l x y z else 0:=by
  rw [get_paste,nB_in h hv]
  cases hF : F.inb x y z
  · rw [Bool.false_and];simp only [Bool.false_eq_true,if_false];exact get_new
  · rw [Bool.true_and,if_pos rfl]
    cases hB : B.inb x y z
    · simp only [Bool.false_eq_true,if_false];rw [get_out hB];exact get_new
    · rw [if_pos rfl]
theorem ok_crop (h : F.rg) (hv : F.vol ≤ 2097152) : ok (nB F 0) (paste (nB F 0) (nL F 0) B l):=ok_paste (ok_new (nE_zero h hv))
theorem crop_self (h : vld B l) : nB B 0 = B ∧ paste (nB B 0) (nL B 0) B l = l:=by
  by_cases h0 : B.vol = 0
  · have e : B = zb:=Classical.byContradiction fun hc=>h.2.1 ⟨h0,hc⟩
    have el : l = []:=List.eq_nil_of_length_eq_zero (by have:=h.2.2.2.1;omega)
    rw [(new_emp (m:=0) ⟨h.1,by unfold mtl;omega⟩ h0).2.1,el,e]
    exact ⟨rfl,mk_zb _⟩
  · have e:=new_ok (m:=0) ⟨h.1,by unfold mtl;omega⟩ h0 (by have:=h.2.2.1;omega)
    refine ⟨e.2.1, ?_⟩
    have hk:=ok_crop (B:=B) (l:=l) h.1 h.2.2.1
    rw [e.2.1] at hk ⊢
    refine eq_of_get hk.len h.ok.len fun x y z hi=>?_
    have:=get_crop (x:=x) (y:=y) (z:=z) (B:=B) (l:=l) h.1 h.2.2.1
    rw [e.2.1,hi,if_pos rfl] at this
    exact this
theorem crop_crop (hF : F.rg) (hvF : F.vol ≤ 2097152) (hH : H.rg) (hvH : H.vol ≤ 2097152) (hc : ∀ x y z,H.inb x y z = true → F.inb x y z = true) :
    paste (nB H 0) (nL H 0) (nB F 0) (paste (nB F 0) (nL F 0) B l) = paste (nB H 0) (nL H 0) B l:=by
  refine eq_of_get (ok_crop hH hvH).len (ok_crop hH hvH).len fun x y z hi=>?_
  rw [get_crop hH hvH,get_crop hH hvH,nB_in hH hvH] at *
  rw [hi,if_pos rfl,if_pos rfl,get_crop hF hvF,hc _ _ _ hi,if_pos rfl]
theorem shift_back : shB (shB B l x y z) l (x * (-1)) (y * (-1)) (z * (-1)) = B:=by
  unfold shB
  by_cases h : 0 < l.length
  · rw [if_pos h,if_pos h];apply bx_eq.2;simp only;omega
  · rw [if_neg h,if_neg h]
end Go.Proofs.YtjdeaopdbenamaaDoor.Gm
namespace Go.Proofs.YtjdeaopdbenamaaDoor
open Go
theorem Gm.con_in {F H : Gm.Bx} {x y z : Int} (h : conB F.a F.b F.c F.d F.e F.f H.a H.b H.c H.d H.e H.f = true) (hi : H.inb x y z = true) : F.inb x y z = true:=by
  have i:=Pt.inB_true.1 hi
  apply Pt.inB_true.2
  unfold conB at h
  cases e : Pt.emp H.a H.b H.c H.d H.e H.f
  · rw [e] at h
    cases k : Pt.meet F.a F.b F.c F.d F.e F.f H.a H.b H.c H.d H.e H.f
    · rw [k] at h
      simp only [Bool.false_or,Bool.not_false,Bool.true_and,decide_eq_true_eq] at h
      omega
    · rw [k] at h;simp at h
  · have:=Pt.emp_true.1 e;omega
end Go.Proofs.YtjdeaopdbenamaaDoor
namespace Go.Proofs.YtjdeaopdbenamaaDoor.Gm
open Go Go.Proofs.YtjdeaopdbenamaaDoor
theorem rp2 {x y z : Int} (h : rp3 x y z) : (-2097152 ≤ x ∧ x ≤ 2097152) ∧ (-2097152 ≤ y ∧ y ≤ 2097152) ∧ (-2097152 ≤ z ∧ z ≤ 2097152) ∧ (-2097152 ≤ (-1 : Int) ∧ (-1 : Int) ≤ 2097152):=by
  unfold rp3 rp at h;omega
theorem rg12 {F H : Bx} (h : F.rg) (k : H.rg) : (-1048575 ≤ F.a ∧ F.a ≤ 1048575) ∧ (-1048575 ≤ F.b ∧ F.b ≤ 1048575) ∧ (-1048575 ≤ F.c ∧ F.c ≤ 1048575) ∧ (-1048575 ≤ F.d ∧ F.d ≤ 1048575) ∧ (-1048575 ≤ F.e ∧ F.e ≤ 1048575) ∧ (-1048575 ≤ F.f ∧ F.f ≤ 1048575) ∧ (-1048575 ≤ H.a ∧ H.a ≤ 1048575) ∧ (-1048575 ≤ H.b ∧ H.b ≤ 1048575) ∧ (-1048575 ≤ H.c ∧ H.c ≤ 1048575) ∧ (-1048575 ≤ H.d ∧ H.d ≤ 1048575) ∧ (-1048575 ≤ H.e ∧ H.e ≤ 1048575) ∧ (-1048575 ≤ H.f ∧ H.f ≤ 1048575):=by
  unfold Bx.rg rp at h k;omega
theorem neg_rp {x y z : Int} (h : near1 (x,y,z) = true) : rp3 (x * (-1)) (y * (-1)) (z * (-1)):=by
  have h2:=near1_rp h
  unfold rp3 rp at h2 ⊢;omega
theorem ok_sh {B : Bx} {l : List Int} {x y z : Int} (h : l.length ≤ 1000 ∧ vld B l ∧ near1 (B.a,B.b,B.c) = true ∧ near1 (B.d,B.e,B.f) = true) (hp : near1 (x,y,z) = true) : ok (shB B l x y z) l:=by
  unfold shB
  by_cases hl : 0 < l.length
  · rw [if_pos hl]
    have e : (⟨B.a + x,B.b + y,B.c + z,B.d + x,B.e + y,B.f + z⟩ : Bx).vol = B.vol:=by
      have e0 : Pt.emp (B.a + x) (B.b + y) (B.c + z) (B.d + x) (B.e + y) (B.f + z) = Pt.emp B.a B.b B.c B.d B.e B.f:=by
        unfold Pt.emp;exact decide_eq_decide.2 (by omega)
      have e1 : B.d + x - (B.a + x) = B.d - B.a:=by omega
      have e2 : B.e + y - (B.b + y) = B.e - B.b:=by omega
      have e3 : B.f + z - (B.c + z) = B.f - B.c:=by omega
      show Pt.vol (B.a + x) (B.b + y) (B.c + z) (B.d + x) (B.e + y) (B.f + z) = Pt.vol B.a B.b B.c B.d B.e B.f
      unfold Pt.vol
      rw [e0]
      unfold Pt.sz
      rw [e1,e2,e3]
    refine ⟨?_,by rw [e];exact h.2.1.ok.len,by rw [e];exact h.2.1.ok.max⟩
    have h1:=of_decide_eq_true h.2.2.1
    have h2:=of_decide_eq_true h.2.2.2
    have h3:=of_decide_eq_true hp
    unfold n1k at h1 h2 h3
    unfold Bx.rg rp
    simp only at h1 h2 h3 ⊢
    omega
  · rw [if_neg hl];exact h.2.1.ok
end Go.Proofs.YtjdeaopdbenamaaDoor.Gm
/-
  Package point over boxes.
-/
namespace Go.Proofs.YtjdeaopdbenamaaDoor
open Go Go.RowKit
set_option linter.unusedVariables false
open Gm (Bx Ch)
theorem rg2 {B : Bx} (h : B.rg) : (-2097152 ≤ B.a ∧ B.a ≤ 2097152) ∧ (-2097152 ≤ B.b ∧ B.b ≤ 2097152) ∧ (-2097152 ≤ B.c ∧ B.c ≤ 2097152) ∧ (-2097152 ≤ B.d ∧ B.d ≤ 2097152) ∧ (-2097152 ≤ B.e ∧ B.e ≤ 2097152) ∧ (-2097152 ≤ B.f ∧ B.f ≤ 2097152):=by
  unfold Bx.rg Gm.rp at h;omega
theorem Gm.tx_tn (s x y z : Int) : Gm.tx s x y z = tnB (isS s) 1 s.toNat 0 x y z ∧ Gm.ty s x y z = tnB (isS s) 1 s.toNat 1 x y z ∧ Gm.tz s x y z = tnB (isS s) 1 s.toNat 2 x y z:=by
  unfold Gm.tx Gm.ty Gm.tz Gm.sy isS
  cases h : decide (0 ≤ s ∧ s < 48) <;> exact ⟨rfl,rfl,rfl⟩
section
variable (w : World)
theorem pvol_b (B : Bx) (h : B.rg) : Calls Tryd.prog 48 #[.agg #[.int .i64 B.a, .int .i64 B.b, .int .i64 B.c, .int .i64 B.d, .int .i64 B.e, .int .i64 B.f]] w fun e w'=>e = .returned (.int .i64 B.vol) ∧ Below w.heap.size w w' :=
  volume_any _ _ _ _ _ _ w ⟨h.1.1,h.1.2.1,h.1.2.2,h.2.1,h.2.2.1,h.2.2.2⟩
theorem pemp_b (B : Bx) : Calls Tryd.prog 47 #[.agg #[.int .i64 B.a, .int .i64 B.b, .int .i64 B.c, .int .i64 B.d, .int .i64 B.e, .int .i64 B.f]] w fun e w'=>e = .returned (.bool B.emp) ∧ Below w.heap.size w w' :=
  empty_any _ _ _ _ _ _ _ w rfl
theorem pindex_b (B : Bx) (x y z : Int) (h : B.rg) (hp : Gm.rp3 x y z) : Calls Tryd.prog 85 #[.agg #[.int .i64 B.a, .int .i64 B.b, .int .i64 B.c, .int .i64 B.d, .int .i64 B.e, .int .i64 B.f], .agg #[.int .i64 x, .int .i64 y, .int .i64 z]] w fun e w'=>e = .returned (.int .i64 (Gm.ixr B x y z)) ∧ Below w.heap.size w w':=by
  have e : Gm.ixr B x y z = xv (Pt.inB x y z B.a B.b B.c B.d B.e B.f) (Pt.idx x y z B.a B.b B.c B.d B.e):=by
    unfold Gm.ixr Bx.inb
    cases Pt.inB x y z B.a B.b B.c B.d B.e B.f <;> rfl
  rw [e];exact index_s _ _ _ _ _ _ _ _ _ w ⟨h.1.1,h.1.2.1,h.1.2.2,h.2.1,h.2.2.1,h.2.2.2,hp.1,hp.2.1,hp.2.2⟩
theorem pinter_b (B C : Bx) (h : B.rg) (k : C.rg) : Calls Tryd.prog 61 #[.agg #[.int .i64 B.a, .int .i64 B.b, .int .i64 B.c, .int .i64 B.d, .int .i64 B.e, .int .i64 B.f], .agg #[.int .i64 C.a, .int .i64 C.b, .int .i64 C.c, .int .i64 C.d, .int .i64 C.e, .int .i64 C.f]] w fun e w'=>e = .returned (.agg #[.int .i64 (Gm.cap B C).a, .int .i64 (Gm.cap B C).b, .int .i64 (Gm.cap B C).c, .int .i64 (Gm.cap B C).d, .int .i64 (Gm.cap B C).e, .int .i64 (Gm.cap B C).f]) ∧ Below w.heap.size w w':=by
  have h1:=rg2 h
  have h2:=rg2 k
  unfold Gm.cap
  cases hm : Pt.meet B.a B.b B.c B.d B.e B.f C.a C.b C.c C.d C.e C.f
  · exact inter_f _ _ _ _ _ _ _ _ _ _ _ _ w (by omega) hm
  · exact inter_t _ _ _ _ _ _ _ _ _ _ _ _ w (by omega) hm
theorem pturncell_b (s x y z : Int) (hT : Tab w) (hp : Gm.rp3 x y z) : Calls Tryd.prog 67 #[.int .i64 s, .agg #[.int .i64 x, .int .i64 y, .int .i64 z]] w fun e w'=>e = .returned (.agg #[.int .i64 (Gm.tx s x y z), .int .i64 (Gm.ty s x y z), .int .i64 (Gm.tz s x y z)]) ∧ Below w.heap.size w w':=by
  rw [(Gm.tx_tn s x y z).1,(Gm.tx_tn s x y z).2.1,(Gm.tx_tn s x y z).2.2]
  exact turncell_s s x y z w hT (by unfold Gm.rp3 Gm.rp at hp;omega)
theorem pturnbox_b (s : Int) (B : Bx) (hT : Tab w) (h : B.rg) : Calls Tryd.prog 64 #[.int .i64 s, .agg #[.int .i64 B.a, .int .i64 B.b, .int .i64 B.c, .int .i64 B.d, .int .i64 B.e, .int .i64 B.f]] w fun e w'=>e = .returned (.agg #[.int .i64 (Gm.tB s B).a, .int .i64 (Gm.tB s B).b, .int .i64 (Gm.tB s B).c, .int .i64 (Gm.tB s B).d, .int .i64 (Gm.tB s B).e, .int .i64 (Gm.tB s B).f]) ∧ Below w.heap.size w w':=by
  have c:=turnbox_s s B.a B.b B.c B.d B.e B.f w hT ⟨h.1.1,h.1.2.1,h.1.2.2,h.2.1,h.2.2.1,h.2.2.2⟩
  unfold isS at c
  unfold Gm.tB Gm.sy
  have e0 : B.emp = Pt.emp B.a B.b B.c B.d B.e B.f:=rfl
  rw [e0]
  cases hs : decide (0 ≤ s ∧ s < 48) <;> rw [hs] at c
  · exact c
  · cases he : Pt.emp B.a B.b B.c B.d B.e B.f <;> rw [he] at c
    · exact c
    · exact c
theorem pshift_b (B : Bx) (x y z : Int) (h : B.rg) (hp : Gm.rp3 x y z) : Calls Tryd.prog 73 #[.agg #[.int .i64 B.a, .int .i64 B.b, .int .i64 B.c, .int .i64 B.d, .int .i64 B.e, .int .i64 B.f], .agg #[.int .i64 x, .int .i64 y, .int .i64 z]] w fun e w'=>e = .returned (.agg #[.int .i64 (B.a + x), .int .i64 (B.b + y), .int .i64 (B.c + z), .int .i64 (B.d + x), .int .i64 (B.e + y), .int .i64 (B.f + z)]) ∧ Below w.heap.size w w':=by
  have h1:=rg2 h
  exact shift_any _ _ _ _ _ _ _ _ _ w (by unfold Gm.rp3 Gm.rp at hp;omega)
end
end Go.Proofs.YtjdeaopdbenamaaDoor
