/-
  voxellaw07.GridCrops: the row's proof.
-/
import Derived.Test.YtjdeaopdbenamaaDoorZF00
import Derived.Test.YtjdeaopdbenamaaDoorRows
import Derived.Test.YtjdeaopdbenamaaDoorCards
import Derived.Test.YtjdeaopdbenamaaDoorTie
import Derived.Test.YtjdeaopdbenamaaDoorZF50
import Derived.Test.YtjdeaopdbenamaaDoorZF51
import Derived.Test.YtjdeaopdbenamaaDoorZF29
import Derived.SevenTiedAt
namespace Go.Proofs.YtjdeaopdbenamaaDoor.gridCrops
open Go.ChangeShapes Go.WideShapes Go.ChangeAt Go.RowKit
open Go.ChangeMaps (open_string shut_string)
set_option linter.unusedVariables false

theorem own : ownKnob Tryd.prog.godebug = none:=by kernel_rfl
theorem laidOut : laidOutB Tryd.prog = true:=by kernel_rfl
def laids : List (String × DataW Unit) := [("voxel/point.orders", Rows.laid_voxel_point_orders)]

/-- the walk: the law answers true, and changes nothing that was there -/
theorem walk (a0a a0b a0c a0d a0e a0f : Int) (A0 : Option Addr) (n0 c0 : Nat) (l0 : List Int) (a1x a1y a1z a1u a1v a1w : Int) (a2x a2y a2z a2u a2v a2w : Int) (a3x a3y a3z : Int) (w : World) (hT : Tab w) (w0 : SL w 1 A0 n0 c0 (ic l0)) (w1 : In64 (a1x,a1y,a1z)) (z1 : In64 (a1u,a1v,a1w)) (w2 : In64 (a2x,a2y,a2z)) (z2 : In64 (a2u,a2v,a2w)) (w3 : In64 (a3x,a3y,a3z)) :
    Calls Tryd.prog 7 #[.agg #[a0a, a0b, a0c, a0d, a0e, a0f, .slice A0 n0 c0], .agg #[a1x, a1y, a1z, a1u, a1v, a1w], .agg #[a2x, a2y, a2z, a2u, a2v, a2w], .agg #[a3x, a3y, a3z]] w fun e w'=>e = .returned (.bool true) ∧ Below w.heap.size w w':=by
  exact law_gl6 ⟨a0a,a0b,a0c,a0d,a0e,a0f⟩ A0 n0 c0 l0 ⟨a1x,a1y,a1z,a1u,a1v,a1w⟩ ⟨a2x,a2y,a2z,a2u,a2v,a2w⟩ a3x a3y a3z w w0 (fun W hg=>sanity_any W (hT.below hg))

/-- the door's own heap meets the condition -/
theorem door_met (os : Os) (args : Array Value) : laidMetH Tryd.prog laids ((World.doorLaid Tryd.prog 400 os).forCall (fun _ _=>0) ⟨#[],args,[]⟩).memory :=
  laidMetH_of_parts3 (fuel:=80) (laidMet_of_run' 80 (by kernel_rfl) (by kernel_rfl)) (by kernel_rfl) (by kernel_rfl)

set_option maxRecDepth 100000 in
theorem lifted (os : Os) (started : os.Started) (H : Type) (enc : TypeId × Value → H) :
    ReturnsInHanded {} Tryd.checked os 7 .any (fun w args=>(Rows.gridCropsSpec.pre enc Tryd.prog Tryd.f7 [] false w args ∧ laidMetH Tryd.prog laids w) ∧ sizedMet enc Tryd.prog Tryd.f7 (OpenSpec.ofChange Rows.gridCropsSpec) false w args)
      (Rows.gridCropsSpec.post enc Tryd.prog Tryd.f7 false true false false):=by
  refine returnsInHanded_of_change_and (C:=Tryd.checked) (X:=fun w _=>laidMetH Tryd.prog laids w) (fun _ _ _ hh h=>h.of_heap hh) own started (by kernel_rfl) Tryd.func7
    (ChangeSpec.witness_shaped (enc:=enc) (C:=Tryd.checked) (os:=os) (X:=fun w _=>laidMetH Tryd.prog laids w) false (World.doorLaid Tryd.prog 400 os) #[.agg #[(), (), (), (), (), (), .slice none 0 0], .agg #[(), (), (), (), (), ()], .agg #[(), (), (), (), (), ()], .agg #[(), (), ()]] 8 rfl (World.shaped_of_RefB (by kernel_rfl) (by kernel_rfl)) (by kernel_rfl) (by kernel_rfl) (by kernel_rfl) (door_met os _)) ?_
  intro W base args ds gs before hval0 hW _ hsz0 hL _
  have hsz : (DataW.weightsEach Tryd.prog (Tryd.f7.params.toList ++ Rows.gridCropsSpec.plain.varTypes Tryd.prog) (ds ++ gs)).all (· ≤ reachBytes) = true:=hsz0
  clear hsz0
  have hval : ∀ (j : Nat) t v,Tryd.f7.params[j]? = some t → args[j]? = some v → Value.okWide Tryd.prog W .any base t v:=hval0
  have hW':=hW
  obtain ⟨p,q,hA0,hV,rfl,hfz,hnd⟩:=hW
  have hA : DataW.TrodAll enc Tryd.prog W 0 (fun _=>true) true Tryd.f7.params.toList args.toList ds p:=hA0
  rw [Tryd.params7] at hA hval hsz
  obtain ⟨v0,vs0,d0,ds0,p0,q0,hargs,rfl,rfl,h0,r0⟩:=trodAll_cons hA
  obtain ⟨v1,vs1,d1,ds1,p1,q1,rfl,rfl,rfl,h1,r1⟩:=trodAll_cons r0
  obtain ⟨v2,vs2,d2,ds2,p2,q2,rfl,rfl,rfl,h2,r2⟩:=trodAll_cons r1
  obtain ⟨v3,vs3,d3,ds3,p3,q3,rfl,rfl,rfl,h3,r3⟩:=trodAll_cons r2
  obtain ⟨rfl,rfl,rfl⟩:=trodAll_nil r3
  obtain rfl : args = #[v0,v1,v2,v3]:=by cases args;simp_all
  obtain ⟨rfl,rfl⟩:=trodVars_none hV
  have HTab:=tab_of_laid hL
  have k0:=h0
  have lt0 : ∀ x ∈ p0,x.block < W.heap.size:=by obtain ⟨m,hm⟩:=k0;exact DataW.trod_lt m _ _ _ hm
  obtain ⟨a0a,a0b,a0c,a0d,a0e,a0f,A0,n0,c0,l0,rfl,z0,w0⟩:=open_grid k0
  have k1:=h1
  have lt1 : ∀ x ∈ p1,x.block < W.heap.size:=by obtain ⟨m,hm⟩:=k1;exact DataW.trod_lt m _ _ _ hm
  obtain ⟨a1x,a1y,a1z,a1u,a1v,a1w,rfl,w1,z1⟩:=open_box k1
  have k2:=h2
  have lt2 : ∀ x ∈ p2,x.block < W.heap.size:=by obtain ⟨m,hm⟩:=k2;exact DataW.trod_lt m _ _ _ hm
  obtain ⟨a2x,a2y,a2z,a2u,a2v,a2w,rfl,w2,z2⟩:=open_box k2
  have k3:=h3
  have lt3 : ∀ x ∈ p3,x.block < W.heap.size:=by obtain ⟨m,hm⟩:=k3;exact DataW.trod_lt m _ _ _ hm
  obtain ⟨a3x,a3y,a3z,rfl,w3⟩:=open_pt k3
  clear hA0 hval0
  refine (walk a0a a0b a0c a0d a0e a0f A0 n0 c0 l0 a1x a1y a1z a1u a1v a1w a2x a2y a2z a2u a2v a2w a3x a3y a3z W HTab w0 w1 z1 w2 z2 w3).mono fun e W' ⟨he,bel⟩=>?_
  subst he
  exact ⟨_,rfl,_,_,_,[],_,[],hW',trodAll_mk1 (shut_bool Tryd.underlying4 _),(trodAll_cons_mk (Below.trod laidOut (by kernel_rfl) (of_decide_eq_true (by kernel_rfl)) k0 bel lt0) (trodAll_cons_mk (Below.trod laidOut (by kernel_rfl) (of_decide_eq_true (by kernel_rfl)) k1 bel lt1) (trodAll_cons_mk (Below.trod laidOut (by kernel_rfl) (of_decide_eq_true (by kernel_rfl)) k2 bel lt2) (trodAll_cons_mk (Below.trod laidOut (by kernel_rfl) (of_decide_eq_true (by kernel_rfl)) k3 bel lt3) trodAll_mk0)))),rfl,bel.frame _,fun h=>by cases h⟩

theorem over : Rows.GridCropsSaid :=
  OpenClaim.holds_of_wide 7 Tryd.f7 rfl rfl rfl rfl rfl rfl rfl ⟨rfl,rfl,rfl,rfl,rfl⟩ rfl rfl rfl rfl rfl (by kernel_rfl) Tryd.func7 (by kernel_rfl)
    (of_decide_eq_true (by kernel_rfl)) (by unfold Func.isWrapper;first | (rw [if_pos (by decide +kernel)];kernel_rfl) | (rw [if_neg (by decide +kernel)];exact ⟨rfl,rfl⟩))
    (fun os started H enc _=>lifted os started H enc)

theorem proved : Rows.GridCropsCardSaid :=
  Claim7.holds_tied_plain_at .later [] [.data] true _ false
    over (fun _ h=>by cases h) (by kernel_rfl) (fun _ h=>by cases h) gridCrops_row_tie rfl ⟨rfl,rfl⟩ (by kernel_rfl) (by rfl)
    (fun f fn hf hfn=>by
      obtain rfl : f = 7 := Option.some.inj ((show Tryd.prog.funcNamed "voxel/voxellaw07.GridCrops" = some 7 by kernel_rfl).symm.trans hf) |>.symm
      obtain rfl : fn = Tryd.f7:=(Option.some.inj (Tryd.func7.symm.trans hfn)).symm
      exact ⟨by kernel_rfl,fun j t ht=>by
        rw [Tryd.params7] at ht
        have hm : t ∈ ([28,25,25,23] : List TypeId):=by simpa using Array.mem_of_getElem? ht
        have hall : (([28,25,25,23] : List TypeId).all fun u=>!Tryd.prog.wantsStandIn u) = true:=by kernel_rfl
        exact (show Tryd.prog.wantsStandIn t = false by simpa using List.all_eq_true.1 hall t hm)⟩)
    (by kernel_rfl)
end Go.Proofs.YtjdeaopdbenamaaDoor.gridCrops
