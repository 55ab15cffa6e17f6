/-
  Contracts of package palette: masks, Delta, Patch.
-/
import Derived.Test.YtfomieekdbkcnaaPk14
import Derived.Test.YtfomieekdbkcnaaPk19
import Derived.Test.YtfomieekdbkcnaaPk23
import Derived.Handy
namespace Go.Proofs.Ytfomieekdbkcnaa
open Go Go.RowKit
set_option linter.unusedVariables false
set_option linter.unusedSimpArgs false
set_option maxRecDepth 1000000 in
set_option maxHeartbeats 4000000 in
theorem putMask_any (bs : List Bool) (w : World) (hbs : bs.length = 64) :
    Calls Try.prog 41 #[.agg (blc bs).toArray] w fun e w' => e = .returned (.string (bstr (Pl.mB bs))) ∧ Below w.heap.size w w' := by
  have S1 : Hid (St w noB [] w) := Lib.hid (St.start w)
  go_enter Try.func41, Try.ntmps41
  go_upto_region 0 with fail
  refine wpG_region_k (fun K hK => ?_)
  refine wpG_val (some 1) rfl (by rfl) (fun W2 hg3 => ⟨.pointer (some ⟨W2.heap.size, 0, none⟩), W2.alloc (.cells (blc bs).toArray 57), by first | (go_simp; done) | (go_simp <;> rfl), ?_⟩)
  simp only [n1, n3, n4]
  obtain ⟨g4, U5, hg_, hu_, hS_⟩ := (S1.out.gr hg3).made (blc bs) 57
  rw [← hu_, ← hg_]
  have S6 : Hid (St w noB [blk g4 57 (blc bs)] U5) := Lib.hid hS_
  clear S1
  clear hg_ hu_ hS_ hg3
  refine @wpG_p _ _ _ _ _ (some 2) (.string ⟨#[]⟩) _ _ rfl (by rfl) (fun _ => rfl) ?_
  simp only [n1, n3, n4]
  refine wpG_done (fun V7 hv8 => ?_)
  have S9 : Hid (St w noB [blk g4 57 (blc bs)] V7) := Lib.hid (S6.out.gr hv8)
  clear S6
  clear hv8
  refine ⟨rfl, hK _ _ ?_⟩
  clear hK
  go_upto_region 1 with fail
  refine wpG_region_k (fun K hK => ?_)
  refine @wpG_p _ _ _ _ _ (some 3) (.slice (some ⟨g4, 0, none⟩) 64 64) _ _ rfl (by rfl) (fun W => by first | kernel_rfl | (go_simp; done) | (go_simp <;> rfl)) ?_
  simp only [n1, n3, n4]
  refine wpG_call (some 4) 51 #[.slice (some ⟨g4, 0, none⟩) 64 64, .int .i64 1, .func (.func 52) #[] #[]] rfl (by rfl) (fun W => by go_simp) (fun W12 hg13 => ?_)
  refine (spread_bool _ 64 _ bs 1 (fun i => (bs.getD i false).toNat) W12 (SL.ofBlkx (S9.out.gr hg13) 0 rfl 64 (by rw [blc_len]; exact hbs)) (by decide) (by decide) (fun i hi => ⟨rfl, by cases bs.getD i false <;> decide⟩)).mono ?_
  rintro e w14 ⟨A10, c11, rfl, hS_⟩
  refine ⟨_, rfl, ?_⟩
  have hT_ := (S9.out.gr hg13).got hS_
  simp only [n1, n3, n4]
  have S15 : Hid (St w noB [own (.slice A10 (Pl.room 64 1) c11) 5 1 (Pl.room 64 1) (bc (Pl.le (Pl.room 64 1) (Pl.S 1 (fun i => (bs.getD i false).toNat) 64))), blk g4 57 (blc bs)] w14) := Lib.hid hT_
  clear S9
  clear hT_ hS_ hg13
  refine @wpG_r _ _ _ _ _ (some 5) (.string (bstr (Pl.le (Pl.room 64 1) (Pl.S 1 (fun i => (bs.getD i false).toNat) 64)))) _ _ rfl (by rfl) (fun W hg => by exact op_conv_str (SL.ofOwn ((S15.out.gr hg).ownr 0 rfl)) rfl rfl Try.underlying43 Try.underlying5 Try.underlying9) ?_
  simp only [n1, n3, n4]
  refine @wpG_p _ _ _ _ _ (some 2) (.string (bstr (Pl.le (Pl.room 64 1) (Pl.S 1 (fun i => (bs.getD i false).toNat) 64)))) _ _ rfl (by rfl) (fun _ => rfl) ?_
  simp only [n1, n3, n4]
  refine wpG_done (fun V16 hv17 => ?_)
  have S18 : Hid (St w noB [own (.slice A10 (Pl.room 64 1) c11) 5 1 (Pl.room 64 1) (bc (Pl.le (Pl.room 64 1) (Pl.S 1 (fun i => (bs.getD i false).toNat) 64))), blk g4 57 (blc bs)] V16) := Lib.hid (S15.out.gr hv17)
  clear S15
  clear hv17
  refine ⟨rfl, hK _ _ ?_⟩
  clear hK
  go_wp2_with fail
  go_ret
  refine ⟨?_, S18.out.bel⟩
  show Ending.returned (.string (bstr (Pl.le (Pl.room 64 1) (Pl.S 1 (fun i => (bs.getD i false).toNat) 64)))) = _
  (first | rfl | (rfl))
section
variable {P : Program}
/-- a copy into a block of any type -/
theorem copy_run2 {o : Oper} {a : Act} {w0 : World} {F : Nat → Prop} {L : List HP} (d s : Operand) (dT sT : TypeId) (ho : o.op = .call { callee := .builtin .copy, args := #[d, s], argTypes := #[dT, sT] })
    (e tb : TypeId) (hu : P.underlying dT = some (.slice e)) (hs : (P.info? e).map (·.size) = some 1)
    (g off dn dc : Nat) (ad : Addr) (sn sc : Nat) (hd : a.eval d = .slice (some ⟨g, off, none⟩) dn dc) (hsv : a.eval s = .slice (some ad) sn sc) (W : World) (h : St w0 F L W) (i : Nat) (cur : List Value) (hL : L[i]? = some (blk g tb cur))
    (cs : List Value) (hn : cs.length = Nat.min sn dn) (hsrc : ∀ j v, cs[j]? = some v → W.cell? (ad.add j) = some v) (hfit : off + cs.length ≤ cur.length) (h1 : ∀ v ∈ cs, v.oneCell' = true) {ds : List Value} (he : setFrom cur off cs = ds) :
    ∃ w1, (execOp a.eval o).run P W = .ok (.value (goInt cs.length)) w1 ∧ St w0 F (L.set i (blk g tb ds)) w1 := by
  have hr := run_copy_cells (P := P) W dT sT o.type e g off dn dc ad sn sc cs hu hs hn hsrc (fun j hj => ?_) (fun j hj => ?_) h1
  · refine ⟨_, ?_, h.put i hL off cs he⟩
    unfold execOp
    simp only [ho, resolve, invoke, builtin, Sem.run_bind, Sem.run_pure, Result.andThen_ok, List.map_toArray, List.map_cons, List.map_nil, hd, hsv, hr]
  · obtain ⟨v, hv⟩ : ∃ v, cur[off + j]? = some v := ⟨_, List.getElem?_eq_getElem (by omega)⟩
    rw [(h.row i hL _ v hv).1]; rfl
  · obtain ⟨v, hv⟩ : ∃ v, cur[off + j]? = some v := ⟨_, List.getElem?_eq_getElem (by omega)⟩
    exact (h.row i hL _ v hv).2
theorem copy_ex2 {o : Oper} {a : Act} {w0 : World} {F : Nat → Prop} {L : List HP} {X : Value → World → Prop} (d s : Operand) (dT sT : TypeId) (ho : o.op = .call { callee := .builtin .copy, args := #[d, s], argTypes := #[dT, sT] })
    (e tb : TypeId) (hu : P.underlying dT = some (.slice e)) (hs : (P.info? e).map (·.size) = some 1)
    (g off dn dc : Nat) (ad : Addr) (sn sc : Nat) (hd : a.eval d = .slice (some ⟨g, off, none⟩) dn dc) (hsv : a.eval s = .slice (some ad) sn sc) (W : World) (h : St w0 F L W) (i : Nat) (cur : List Value) (hL : L[i]? = some (blk g tb cur))
    (cs : List Value) (hn : cs.length = Nat.min sn dn) (hsrc : ∀ j v, cs[j]? = some v → W.cell? (ad.add j) = some v) (hfit : off + cs.length ≤ cur.length) (h1 : ∀ v ∈ cs, v.oneCell' = true) {ds : List Value} (he : setFrom cur off cs = ds)
    (k : ∀ w1, St w0 F (L.set i (blk g tb ds)) w1 → X (goInt cs.length) w1) : ∃ v' w1, (execOp a.eval o).run P W = .ok (.value v') w1 ∧ X v' w1 := by
  obtain ⟨w1, h2, h3⟩ := copy_run2 (P := P) d s dT sT ho e tb hu hs g off dn dc ad sn sc hd hsv W h i cur hL cs hn hsrc hfit h1 he
  exact ⟨_, w1, h2, k w1 h3⟩
end
theorem setFrom_full : ∀ (vs cs : List Value), vs.length = cs.length → setFrom cs 0 vs = vs := by
  intro vs cs h
  apply List.ext_getElem?
  intro j
  rw [setFrom_at vs 0 cs j (by omega)]
  by_cases hj : j < vs.length
  · rw [if_pos ⟨Nat.zero_le _, by omega⟩, Nat.sub_zero]
  · rw [if_neg (by omega), List.getElem?_eq_none (by omega), List.getElem?_eq_none (by omega)]
set_option maxRecDepth 1000000 in
set_option maxHeartbeats 4000000 in
theorem getMask_any (x : List UInt8) (w : World) (hx : x.length = 8) :
    Calls Try.prog 43 #[.string (bstr x)] w fun e w' => e = .returned (.agg (blc (Pl.mbs x 64)).toArray) ∧ Below w.heap.size w w' := by
  have S1 : Hid (St w noB [] w) := Lib.hid (St.start w)
  go_enter Try.func43, Try.ntmps43
  go_upto_region 0 with fail
  refine wpG_region_k (fun K hK => ?_)
  have ez_ : (List.replicate 64 (.bool false)).toArray = (blc (List.replicate 64 false)).toArray := by rw [show blc (List.replicate 64 false) = List.replicate 64 (Value.bool false) from by simp only [blc, List.map_replicate]]
  refine wpG_val (some 2) rfl (by rfl) (fun W2 hg3 => ⟨.pointer (some ⟨W2.heap.size, 0, none⟩), W2.alloc (.cells (blc (List.replicate 64 false)).toArray 57), by rw [← ez_]; first | kernel_rfl | (go_simp; done) | (go_simp <;> rfl), ?_⟩)
  simp only [n1, n3, n4]
  obtain ⟨g4, U5, hg_, hu_, hS_⟩ := (S1.out.gr hg3).made (blc (List.replicate 64 false)) 57
  rw [← hu_, ← hg_]
  have S6 : Hid (St w noB [blk g4 57 (blc (List.replicate 64 false))] U5) := Lib.hid hS_
  clear S1
  clear hg_ hu_ hS_ hg3 ez_
  refine wpG_done (fun V7 hv8 => ?_)
  have S9 : Hid (St w noB [blk g4 57 (blc (List.replicate 64 false))] V7) := Lib.hid (S6.out.gr hv8)
  clear S6
  clear hv8
  refine ⟨rfl, hK _ _ ?_⟩
  clear hK
  go_upto_region 1 with fail
  refine wpG_region_k (fun K hK => ?_)
  have ez_ : (List.replicate 64 (.bool false)).toArray = (blc (List.replicate 64 false)).toArray := by rw [show blc (List.replicate 64 false) = List.replicate 64 (Value.bool false) from by simp only [blc, List.map_replicate]]
  refine wpG_val (some 3) rfl (by rfl) (fun W10 hg11 => ⟨.pointer (some ⟨W10.heap.size, 0, none⟩), W10.alloc (.cells (blc (List.replicate 64 false)).toArray 57), by rw [← ez_]; first | kernel_rfl | (go_simp; done) | (go_simp <;> rfl), ?_⟩)
  simp only [n1, n3, n4]
  obtain ⟨g12, U13, hg_, hu_, hS_⟩ := (S9.out.gr hg11).made (blc (List.replicate 64 false)) 57
  rw [← hu_, ← hg_]
  have S14 : Hid (St w noB [blk g12 57 (blc (List.replicate 64 false)), blk g4 57 (blc (List.replicate 64 false))] U13) := Lib.hid hS_
  clear S9
  clear hg_ hu_ hS_ hg11 ez_
  refine wpG_done (fun V15 hv16 => ?_)
  have S17 : Hid (St w noB [blk g12 57 (blc (List.replicate 64 false)), blk g4 57 (blc (List.replicate 64 false))] V15) := Lib.hid (S14.out.gr hv16)
  clear S14
  clear hv16
  refine ⟨rfl, hK _ _ ?_⟩
  clear hK
  go_upto_region 2 with fail
  refine wpG_region_k (fun K hK => ?_)
  refine @wpG_p _ _ _ _ _ (some 7) (.string (bstr x)) _ _ rfl (by rfl) (fun _ => rfl) ?_
  simp only [n1, n3, n4]
  refine wpG_call (some 8) 53 #[.string (bstr x), .int .i64 64, .int .i64 1, .func (.func 54) #[] #[]] rfl (by rfl) (fun W => by go_simp) (fun W18 hg19 => ?_)
  refine (gather_bool x W18 hx).mono ?_
  rintro e w20 ⟨E, d, rfl, hS_⟩
  refine ⟨_, rfl, ?_⟩
  have hT_ := (S17.out.gr hg19).got hS_
  simp only [n1, n3, n4]
  have S21 : Hid (St w noB [own (.slice E 64 d) 4 1 64 (blc (Pl.mbs x 64)), blk g12 57 (blc (List.replicate 64 false)), blk g4 57 (blc (List.replicate 64 false))] w20) := Lib.hid hT_
  clear S17
  clear hT_ hS_ hg19
  refine @wpG_p _ _ _ _ _ (some 6) (.tuple #[.slice E 64 d, .bool true]) _ _ rfl (by rfl) (fun _ => rfl) ?_
  simp only [n1, n3, n4]
  refine @wpG_p _ _ _ _ _ (some 9) (.slice E 64 d) _ _ rfl (by rfl) (fun W => by go_simp) ?_
  simp only [n1, n3, n4]
  refine @wpG_p _ _ _ _ _ (some 10) (.bool true) _ _ rfl (by rfl) (fun W => by go_simp) ?_
  simp only [n1, n3, n4]
  refine @wpG_p _ _ _ _ _ (some 4) (.slice E 64 d) _ _ rfl (by rfl) (fun _ => rfl) ?_
  simp only [n1, n3, n4]
  refine @wpG_p _ _ _ _ _ (some 5) (.bool true) _ _ rfl (by rfl) (fun _ => rfl) ?_
  simp only [n1, n3, n4]
  refine wpG_done (fun V22 hv23 => ?_)
  have S24 : Hid (St w noB [own (.slice E 64 d) 4 1 64 (blc (Pl.mbs x 64)), blk g12 57 (blc (List.replicate 64 false)), blk g4 57 (blc (List.replicate 64 false))] V22) := Lib.hid (S21.out.gr hv23)
  clear S21
  clear hv23
  refine ⟨rfl, hK _ _ ?_⟩
  clear hK
  go_upto_region 3 with fail
  refine wpG_region_k (fun K hK => ?_)
  refine @wpG_p _ _ _ _ _ (some 11) (.slice (some ⟨g12, 0, none⟩) 64 64) _ _ rfl (by rfl) (fun W => by first | kernel_rfl | (go_simp; done) | (go_simp <;> rfl)) ?_
  simp only [n1, n3, n4]
  refine @wpG_p _ _ _ _ _ (some 12) (.slice E 64 d) _ _ rfl (by rfl) (fun _ => rfl) ?_
  simp only [n1, n3, n4]
  obtain ⟨og25, rfl⟩ := ownAdr (S24.out.ownr 0 rfl) (by decide)
  refine wpG_val (some 13) rfl (by rfl) (fun W26 hg27 => ?_)
  have hln_ : (blc (Pl.mbs x 64)).length = 64 := by rw [blc_len, Pl.mbs_len]
  refine copy_ex2 (.tmp 11) (.tmp 12) 68 68 rfl 4 57 Try.underlying68 (by kernel_rfl) g12 0 64 64 ⟨og25, 0, none⟩ 64 d rfl rfl W26 (S24.out.gr hg27) 1 (blc (List.replicate 64 false)) rfl (blc (Pl.mbs x 64)) (by rw [hln_]; rfl) (fun j v hj => by have h_ := own_at ((S24.out.gr hg27).ownr 0 rfl) hj; (simp only [Addr.add]; split <;> first | exact h_ | (subst_vars; exact h_) | simpa using h_)) (by rw [hln_]; simp [blc]) (blc_one _) (ds := blc (Pl.mbs x 64)) (by rw [setFrom_full _ _ (by rw [hln_]; simp [blc])]) (fun U28 hS_ => ?_)
  simp only [n1, n3, n4]
  have S29 : Hid (St w noB [own (.slice (some ⟨og25, 0, none⟩) 64 d) 4 1 64 (blc (Pl.mbs x 64)), blk g12 57 (blc (Pl.mbs x 64)), blk g4 57 (blc (List.replicate 64 false))] U28) := Lib.hid hS_
  clear S24
  clear hS_ hln_ hg27
  refine wpG_done (fun V30 hv31 => ?_)
  have S32 : Hid (St w noB [own (.slice (some ⟨og25, 0, none⟩) 64 d) 4 1 64 (blc (Pl.mbs x 64)), blk g12 57 (blc (Pl.mbs x 64)), blk g4 57 (blc (List.replicate 64 false))] V30) := Lib.hid (S29.out.gr hv31)
  clear S29
  clear hv31
  refine ⟨rfl, hK _ _ ?_⟩
  clear hK
  go_upto_region 4 with fail
  refine wpG_region_k (fun K hK => ?_)
  refine @wpG_tk _ _ _ _ _ (some 14) (.agg (blc (Pl.mbs x 64)).toArray) _ _ rfl (.load_mid (by rfl) 57 (.tmp 3) rfl g12 0 rfl (blc (Pl.mbs x 64)) _ (fun W hg => ((S32.out.gr hg).row 1 rfl).range) Try.underlying57 rfl (by rw [blc_len, Pl.mbs_len]; kernel_rfl)) ?_
  simp only [n1, n3, n4]
  refine wpG_store (none) rfl (by rfl) (fun W33 hg34 => ⟨_, run_store_mid 57 (.tmp 2) (.tmp 14) rfl g4 0 (blc (Pl.mbs x 64)).toArray rfl rfl ((S32.out.gr hg34).room 2 rfl 0 _ (by show 0 + (blc (Pl.mbs x 64)).length ≤ _; rw [blc_len, blc_len, Pl.mbs_len]; simp)) (by show _ = some (blc (Pl.mbs x 64)).length; rw [blc_len, Pl.mbs_len]; kernel_rfl) (blc_all _), ?_⟩)
  simp only [n2]
  obtain ⟨U35, hu_, hS_⟩ := ((S32.out.gr hg34).put 2 rfl 0 ((blc (Pl.mbs x 64)).toArray).toList (ds := blc (Pl.mbs x 64)) (by rw [setFrom_full _ _ (by show (blc (Pl.mbs x 64)).length = _; rw [blc_len, blc_len, Pl.mbs_len]; simp)])).named
  rw [← hu_]
  have S36 : Hid (St w noB [own (.slice (some ⟨og25, 0, none⟩) 64 d) 4 1 64 (blc (Pl.mbs x 64)), blk g12 57 (blc (Pl.mbs x 64)), blk g4 57 (blc (Pl.mbs x 64))] U35) := Lib.hid hS_
  clear S32
  clear hu_ hS_ hg34
  refine wpG_done (fun V37 hv38 => ?_)
  have S39 : Hid (St w noB [own (.slice (some ⟨og25, 0, none⟩) 64 d) 4 1 64 (blc (Pl.mbs x 64)), blk g12 57 (blc (Pl.mbs x 64)), blk g4 57 (blc (Pl.mbs x 64))] V37) := Lib.hid (S36.out.gr hv38)
  clear S36
  clear hv38
  refine ⟨rfl, hK _ _ ?_⟩
  clear hK
  go_wp2_with fail
  (try simp only [Exit.inBlock, Exit.then])
  refine bodyPost_ret (results_cell_mid rfl _ _ _ g4 0 (blc (Pl.mbs x 64)) _ rfl (S39.out.row 2 rfl).range Try.underlying57 rfl (by rw [blc_len, Pl.mbs_len]; kernel_rfl)) rfl ?_
  exact ⟨rfl, S39.out.bel⟩

end Go.Proofs.Ytfomieekdbkcnaa
