/-
  voxellaw07.GridPastes: the row's proof.
-/
import Derived.Test.YtjdeaopdbenamaaDoorRows
import Derived.Test.YtjdeaopdbenamaaDoorCards
import Derived.Test.YtjdeaopdbenamaaDoorTie
import Derived.Test.YtjdeaopdbenamaaDoorZD51
import Derived.Test.YtjdeaopdbenamaaDoorZD52
import Derived.Test.YtjdeaopdbenamaaDoorZD27
import Derived.SevenTiedAt
namespace Go.Proofs.YtjdeaopdbenamaaDoor.gridPastes
open Go.ChangeShapes Go.WideShapes Go.ChangeAt Go.RowKit
open Go.ChangeMaps (open_string shut_string)
set_option linter.unusedVariables false

theorem own : ownKnob Tryd.prog.godebug = none:=by kernel_rfl
theorem laidOut : laidOutB Tryd.prog = true:=by kernel_rfl
def laids : List (String × DataW Unit) := [("voxel/point.orders", Rows.laid_voxel_point_orders)]

/-- the walk: the law answers true, and changes nothing that was there -/
theorem walk (a0a a0b a0c a0d a0e a0f : Int) (A0 : Option Addr) (n0 c0 : Nat) (l0 : List Int) (a1a a1b a1c a1d a1e a1f : Int) (A1 : Option Addr) (n1 c1 : Nat) (l1 : List Int) (a2x a2y a2z : Int) (w : World) (hT : Tab w) (w0 : SL w 1 A0 n0 c0 (ic l0)) (w1 : SL w 1 A1 n1 c1 (ic l1)) (w2 : In64 (a2x,a2y,a2z)) :
    Calls Tryd.prog 5 #[.agg #[.int .i64 a0a, .int .i64 a0b, .int .i64 a0c, .int .i64 a0d, .int .i64 a0e, .int .i64 a0f, .slice A0 n0 c0], .agg #[.int .i64 a1a, .int .i64 a1b, .int .i64 a1c, .int .i64 a1d, .int .i64 a1e, .int .i64 a1f, .slice A1 n1 c1], .agg #[.int .i64 a2x, .int .i64 a2y, .int .i64 a2z]] w fun e w' => e = .returned (.bool true) ∧ Below w.heap.size w w':=by
  exact law_gl4 ⟨a0a,a0b,a0c,a0d,a0e,a0f⟩ A0 n0 c0 l0 ⟨a1a,a1b,a1c,a1d,a1e,a1f⟩ A1 n1 c1 l1 a2x a2y a2z w w0 w1 (fun W hg => sanity_any W (hT.below hg))

/-- the door's own heap meets the condition -/
theorem door_met (os : Os) (args : Array Value) : laidMetH Tryd.prog laids ((World.doorLaid Tryd.prog 400 os).forCall (fun _ _ => 0) ⟨#[],args,[]⟩).memory :=
  laidMetH_of_parts3 (fuel:=80) (laidMet_of_run' 80 (by kernel_rfl) (by kernel_rfl)) (by kernel_rfl) (by kernel_rfl)

set_option maxRecDepth 100000 in
theorem lifted (os : Os) (started : os.Started) (H : Type) (enc : TypeId × Value → H) :
    ReturnsInHanded {} Tryd.checked os 5 .any (fun w args => (Rows.gridPastesSpec.pre enc Tryd.prog Tryd.f5 [] false w args ∧ laidMetH Tryd.prog laids w) ∧ sizedMet enc Tryd.prog Tryd.f5 (OpenSpec.ofChange Rows.gridPastesSpec) false w args)
      (Rows.gridPastesSpec.post enc Tryd.prog Tryd.f5 false true false false):=by
  refine returnsInHanded_of_change_and (C:=Tryd.checked) (X:=fun w _ => laidMetH Tryd.prog laids w) (fun _ _ _ hh h => h.of_heap hh) own started (by kernel_rfl) Tryd.func5
    (ChangeSpec.witness_shaped (enc:=enc) (C:=Tryd.checked) (os:=os) (X:=fun w _ => laidMetH Tryd.prog laids w) false (World.doorLaid Tryd.prog 400 os) #[.agg #[.int .i64 0, .int .i64 0, .int .i64 0, .int .i64 0, .int .i64 0, .int .i64 0, .slice none 0 0], .agg #[.int .i64 0, .int .i64 0, .int .i64 0, .int .i64 0, .int .i64 0, .int .i64 0, .slice none 0 0], .agg #[.int .i64 0, .int .i64 0, .int .i64 0]] 8 rfl (World.shaped_of_RefB (by kernel_rfl) (by kernel_rfl)) (by kernel_rfl) (by kernel_rfl) (by kernel_rfl) (door_met os _)) ?_
  intro W base args ds gs before hval0 hW _ hsz0 hL _
  have hsz : (DataW.weightsEach Tryd.prog (Tryd.f5.params.toList ++ Rows.gridPastesSpec.plain.varTypes Tryd.prog) (ds ++ gs)).all (· ≤ reachBytes) = true:=hsz0
  clear hsz0
  have hval : ∀ (j : Nat) t v,Tryd.f5.params[j]? = some t → args[j]? = some v → Value.okWide Tryd.prog W .any base t v:=hval0
  have hW':=hW
  obtain ⟨p,q,hA0,hV,rfl,hfz,hnd⟩:=hW
  have hA : DataW.TrodAll enc Tryd.prog W 0 (fun _ => true) true Tryd.f5.params.toList args.toList ds p:=hA0
  rw [Tryd.params5] at hA hval hsz
  obtain ⟨v0,vs0,d0,ds0,p0,q0,hargs,rfl,rfl,h0,r0⟩:=trodAll_cons hA
  obtain ⟨v1,vs1,d1,ds1,p1,q1,rfl,rfl,rfl,h1,r1⟩:=trodAll_cons r0
  obtain ⟨v2,vs2,d2,ds2,p2,q2,rfl,rfl,rfl,h2,r2⟩:=trodAll_cons r1
  obtain ⟨rfl,rfl,rfl⟩:=trodAll_nil r2
  obtain rfl : args = #[v0,v1,v2]:=by cases args;simp_all
  obtain ⟨rfl,rfl⟩:=trodVars_none hV
  have HTab:=tab_of_laid hL
  have k0:=h0
  have lt0 : ∀ x ∈ p0,x.block < W.heap.size:=by obtain ⟨m,hm⟩:=k0;exact DataW.trod_lt m _ _ _ hm
  obtain ⟨a0a,a0b,a0c,a0d,a0e,a0f,A0,n0,c0,l0,rfl,z0,w0⟩:=open_grid k0
  have k1:=h1
  have lt1 : ∀ x ∈ p1,x.block < W.heap.size:=by obtain ⟨m,hm⟩:=k1;exact DataW.trod_lt m _ _ _ hm
  obtain ⟨a1a,a1b,a1c,a1d,a1e,a1f,A1,n1,c1,l1,rfl,z1,w1⟩:=open_grid k1
  have k2:=h2
  have lt2 : ∀ x ∈ p2,x.block < W.heap.size:=by obtain ⟨m,hm⟩:=k2;exact DataW.trod_lt m _ _ _ hm
  obtain ⟨a2x,a2y,a2z,rfl,w2⟩:=open_pt k2
  clear hA0 hval0
  refine (walk a0a a0b a0c a0d a0e a0f A0 n0 c0 l0 a1a a1b a1c a1d a1e a1f A1 n1 c1 l1 a2x a2y a2z W HTab w0 w1 w2).mono fun e W' ⟨he,bel⟩ => ?_
  subst he
  exact ⟨_,rfl,_,_,_,[],_,[],hW',trodAll_mk1 (shut_bool Tryd.underlying4 _),(trodAll_cons_mk (Below.trod laidOut (by kernel_rfl) (of_decide_eq_true (by kernel_rfl)) k0 bel lt0) (trodAll_cons_mk (Below.trod laidOut (by kernel_rfl) (of_decide_eq_true (by kernel_rfl)) k1 bel lt1) (trodAll_cons_mk (Below.trod laidOut (by kernel_rfl) (of_decide_eq_true (by kernel_rfl)) k2 bel lt2) trodAll_mk0))),rfl,bel.frame _,fun h => by cases h⟩

theorem over : Rows.GridPastesSaid :=
  OpenClaim.holds_of_wide 5 Tryd.f5 rfl rfl rfl rfl rfl rfl rfl ⟨rfl,rfl,rfl,rfl,rfl⟩ rfl rfl rfl rfl rfl (by kernel_rfl) Tryd.func5 (by kernel_rfl)
    (of_decide_eq_true (by kernel_rfl)) (by unfold Func.isWrapper;first | (rw [if_pos (by decide +kernel)];kernel_rfl) | (rw [if_neg (by decide +kernel)];exact ⟨rfl,rfl⟩))
    (fun os started H enc _ => lifted os started H enc)

theorem proved : Rows.GridPastesCardSaid :=
  Claim7.holds_tied_plain_at .later [] [.data] true _ false
    over (fun _ h => by cases h) (by kernel_rfl) (fun _ h => by cases h) gridPastes_row_tie rfl ⟨rfl,rfl⟩ (by kernel_rfl) (by rfl)
    (fun f fn hf hfn => by
      obtain rfl : f = 5 := Option.some.inj ((show Tryd.prog.funcNamed "voxel/voxellaw07.GridPastes" = some 5 by kernel_rfl).symm.trans hf) |>.symm
      obtain rfl : fn = Tryd.f5:=(Option.some.inj (Tryd.func5.symm.trans hfn)).symm
      exact ⟨by kernel_rfl,fun j t ht => by
        rw [Tryd.params5] at ht
        have hm : t ∈ ([28,28,23] : List TypeId):=by simpa using Array.mem_of_getElem? ht
        have hall : (([28,28,23] : List TypeId).all fun u => !Tryd.prog.wantsStandIn u) = true:=by kernel_rfl
        exact (show Tryd.prog.wantsStandIn t = false by simpa using List.all_eq_true.1 hall t hm)⟩)
    (by kernel_rfl)
end Go.Proofs.YtjdeaopdbenamaaDoor.gridPastes
