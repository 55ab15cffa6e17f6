/-
  The contract of the specification's turned, for each order of axes.
-/
import Derived.Test.YtjdeaopdbenamaaDoorZE10
import Derived.Handy
namespace Go.Proofs.YtjdeaopdbenamaaDoor
open Go.RowKit
set_option linter.unusedVariables false
def rfil0 (less : Int) (s : Nat) (x1 x2 x3 : Int) : Nat → List Value
  | 0=>[.int .i64 0, .int .i64 0, .int .i64 0]
  | 1=>[.int .i64 (Pt.tc less s 0 x1 x2 x3), .int .i64 0, .int .i64 0]
  | 2=>[.int .i64 (Pt.tc less s 0 x1 x2 x3), .int .i64 (Pt.tc less s 1 x1 x2 x3), .int .i64 0]
  | _=>[.int .i64 (Pt.tc less s 0 x1 x2 x3), .int .i64 (Pt.tc less s 1 x1 x2 x3), .int .i64 (Pt.tc less s 2 x1 x2 x3)]
set_option maxRecDepth 1000000 in
set_option maxHeartbeats 4000000 in
theorem rturned_o0 (s : Nat) (x1 x2 x3 less : Int) (w : World) (hs : s < 48) (hk : (s : Int) / 8 = 0) (h : (-2097152 ≤ x1 ∧ x1 ≤ 2097152) ∧ (-2097152 ≤ x2 ∧ x2 ≤ 2097152) ∧ (-2097152 ≤ x3 ∧ x3 ≤ 2097152)) (hl : 0 ≤ less ∧ less ≤ 1) :
    Calls Tryd.prog 68 #[.int .i64 (s : Int), .agg #[.int .i64 x1, .int .i64 x2, .int .i64 x3], .int .i64 less] w fun e w'=>e = .returned (.agg #[.int .i64 (Pt.tc less s 0 x1 x2 x3), .int .i64 (Pt.tc less s 1 x1 x2 x3), .int .i64 (Pt.tc less s 2 x1 x2 x3)]) ∧ Below w.heap.size w w':=by
  have CS : Hid (∀ W,Calls Tryd.prog 69 #[.int .i64 (s : Int)] W fun e w'=>e = .returned (.bool true) ∧ Below W.heap.size W w'):=Lib.hid (fun W=>by
    have:=is_any (s : Int) W
    rwa [decide_eq_true (show 0 ≤ (s : Int) ∧ (s : Int) < 48 by omega)] at this)
  have CN : Hid (∀ i : Nat,i < 3 → ∀ W,Calls Tryd.prog 97 #[.int .i64 (s : Int), .int .i64 (i : Int)] W fun e w'=>e = .returned (.bool (Pt.bit s i)) ∧ w' = W):=Lib.hid (fun i hi W=>rnegates_same s i W hs hi)
  have HK:=Lib.hid (show s / 8 = 0 by omega)
  have HKI:=Lib.hid hk
  obtain ⟨u,hu,r0,r1,g0⟩:=rows2 w [.int .i64 x1, .int .i64 x2, .int .i64 x3] 23 [.int .i64 0, .int .i64 0, .int .i64 0] 23
  have R0:=Lib.hid r0
  have R1:=Lib.hid r1
  have G0:=Lib.hid g0
  have HU:=Lib.hid hu
  clear hu g0 r0 r1
  go_enter Tryd.func68,Tryd.ntmps68
  go_upto_region 1 with fail
  rw [← HU.out]
  refine wpG_region ?_
  refine wpG_tk (some 13) (v:=.int .i64 (s : Int)) rfl (.val (by rfl) (fun _ _=>rfl)) ?_
  simp only [Act.put,List.setIfInBounds_toArray,List.set_cons_zero,List.set_cons_succ]
  refine wpG_tk (some 14) (v:=.bool true) rfl (.call (f:=69) (args:=#[.int .i64 (s : Int)]) (by rfl) (fun W=>by go_simp) (fun W hg=>CS.out W)) ?_
  simp only [Act.put,List.setIfInBounds_toArray,List.set_cons_zero,List.set_cons_succ]
  refine wpG_tk (some 7) (v:=.bool true) rfl (.val (by rfl) (fun _ _=>rfl)) ?_
  simp only [Act.put,List.setIfInBounds_toArray,List.set_cons_zero,List.set_cons_succ]
  refine wpG_done (fun V1 hv2=>?_)
  have GC3:=Lib.hid hv2
  clear hv2
  go_upto_region 2 with fail
  refine wpG_region ?_
  refine wpG_tk (some 15) (v:=.bool true) rfl (.val (by rfl) (fun _ _=>rfl)) ?_
  simp only [Act.put,List.setIfInBounds_toArray,List.set_cons_zero,List.set_cons_succ]
  refine wpG_tk (some 16) (v:=.bool false) rfl (.val (by rfl) (fun W hg=>by go_simp)) ?_
  simp only [Act.put,List.setIfInBounds_toArray,List.set_cons_zero,List.set_cons_succ]
  refine wpG_done (fun V4 hv5=>?_)
  have GC6:=Lib.hid (GC3.out.trans hv5)
  clear hv5
  go_upto_region 4 with fail
  refine wpG_region ?_
  refine wpG_tk (some 18) (v:=.agg #[.int .i64 x1, .int .i64 x2, .int .i64 x3]) rfl (.load_mid (by rfl) 23 (.tmp 4) rfl (w.heap.size) 0 rfl [.int .i64 x1, .int .i64 x2, .int .i64 x3] _ (fun W hg=>(R0.out.below (GC6.out.trans hg)).range) Tryd.underlying23 rfl (by kernel_rfl)) ?_
  simp only [Act.put,List.setIfInBounds_toArray,List.set_cons_zero,List.set_cons_succ]
  refine wpG_tk (some 19) (v:=.agg #[.int .i64 x1, .int .i64 x2, .int .i64 x3]) rfl (.call (f:=95) (args:=#[.agg #[.int .i64 x1, .int .i64 x2, .int .i64 x3]]) (by rfl) (fun W=>by go_simp) (fun W hg=>rlist_any x1 x2 x3 W)) ?_
  simp only [Act.put,List.setIfInBounds_toArray,List.set_cons_zero,List.set_cons_succ]
  refine wpG_val (some 8) rfl (by rfl) (fun W7 hg8=>⟨.pointer (some ⟨W7.heap.size,0,none⟩),W7.alloc (.cells #[.int .i64 0, .int .i64 0, .int .i64 0] 80),by (go_simp <;> rfl), ?_⟩)
  simp only [Act.put,List.setIfInBounds_toArray,List.set_cons_zero,List.set_cons_succ]
  refine wpG_store (none) rfl (by rfl) (fun W9 hg10=>⟨_,run_store_mid 80 (.tmp 8) (.tmp 19) rfl (W7.heap.size) 0 #[.int .i64 x1, .int .i64 x2, .int .i64 x3] rfl rfl (Row.room hg10 3 rfl) (by kernel_rfl) (by kernel_rfl), ?_⟩)
  simp only [Act.put]
  refine wpG_done (fun V11 hv12=>?_)
  have l14 : w.heap.size < W7.heap.size:=(R0.out.below (GC6.out.trans hg8)).lt
  have l15 : w.heap.size + 1 < W7.heap.size:=(R1.out.below (GC6.out.trans hg8)).lt
  have l16 : w.heap.size ≤ W7.heap.size:=(Gr.to G0.out (GC6.out.trans hg8)).size
  have R17:=Lib.hid ((R0.out.below (GC6.out.trans hg8)).past hg10 hv12)
  have R18:=Lib.hid ((R1.out.below (GC6.out.trans hg8)).past hg10 hv12)
  have R19:=Lib.hid (Row.made (zs:=[.int .i64 0, .int .i64 0, .int .i64 0]) (ds:=[.int .i64 x1, .int .i64 x2, .int .i64 x3]) rfl hg10 hv12)
  have G13:=Lib.hid (Gr.to (Gr.to G0.out (GC6.out.trans hg8)) (Gr.past hg10 hv12))
  clear hg10 hv12 
  go_upto_region 5 with fail
  refine wpG_region ?_
  refine wpG_tk (some 20) (v:=.int .i64 (s : Int)) rfl (.val (by rfl) (fun _ _=>rfl)) ?_
  simp only [Act.put,List.setIfInBounds_toArray,List.set_cons_zero,List.set_cons_succ]
  refine wpG_tk (some 21) (v:=.int .i64 0) rfl (.val (by rfl) (fun W hg=>by have q:=HKI.out;go_simp <;> rfl)) ?_
  simp only [Act.put,List.setIfInBounds_toArray,List.set_cons_zero,List.set_cons_succ]
  refine wpG_tk (some 22) (v:=.agg #[.int .i64 0, .int .i64 1, .int .i64 2]) rfl (.call (f:=96) (args:=#[.int .i64 0]) (by rfl) (fun W=>by go_simp) (fun W hg=>(by have c:=order_any 0 W (by decide);exact c))) ?_
  simp only [Act.put,List.setIfInBounds_toArray,List.set_cons_zero,List.set_cons_succ]
  refine wpG_val (some 9) rfl (by rfl) (fun W20 hg21=>⟨.pointer (some ⟨W20.heap.size,0,none⟩),W20.alloc (.cells #[.int .i64 0, .int .i64 0, .int .i64 0] 80),by (go_simp <;> rfl), ?_⟩)
  simp only [Act.put,List.setIfInBounds_toArray,List.set_cons_zero,List.set_cons_succ]
  refine wpG_store (none) rfl (by rfl) (fun W22 hg23=>⟨_,run_store_mid 80 (.tmp 9) (.tmp 22) rfl (W20.heap.size) 0 #[.int .i64 0, .int .i64 1, .int .i64 2] rfl rfl (Row.room hg23 3 rfl) (by kernel_rfl) (by kernel_rfl), ?_⟩)
  simp only [Act.put]
  refine wpG_done (fun V24 hv25=>?_)
  have l27 : w.heap.size < W20.heap.size:=(R17.out.below hg21).lt
  have l28 : w.heap.size + 1 < W20.heap.size:=(R18.out.below hg21).lt
  have l29 : W7.heap.size < W20.heap.size:=(R19.out.below hg21).lt
  have l30 : w.heap.size ≤ W20.heap.size:=(Gr.to G13.out hg21).size
  have R31:=Lib.hid ((R17.out.below hg21).past hg23 hv25)
  have R32:=Lib.hid ((R18.out.below hg21).past hg23 hv25)
  have R33:=Lib.hid ((R19.out.below hg21).past hg23 hv25)
  have R34:=Lib.hid (Row.made (zs:=[.int .i64 0, .int .i64 0, .int .i64 0]) (ds:=[.int .i64 0, .int .i64 1, .int .i64 2]) rfl hg23 hv25)
  have G26:=Lib.hid (Gr.to (Gr.to G13.out hg21) (Gr.past hg23 hv25))
  clear hg23 hv25 
  have TB:=Lib.hid (RR.begin (Z:=[.int .i64 0, .int .i64 0, .int .i64 0]) 80 R33.out R34.out R32.out (Row.lt R33.out) (Row.lt R34.out) (Row.lt R32.out) G26.out)
  clear HU
  go_wp2_with fail
  go_loopw [11] (fun c wr=>∃ i Z,c = .int .i64 ((i : Nat) : Int) ∧ i ≤ 3 ∧ Z = rfil0 less s x1 x2 x3 i ∧ RR (W7.heap.size) (W20.heap.size) V24.heap.size (w.heap.size + 1) [.int .i64 x1, .int .i64 x2, .int .i64 x3] [.int .i64 0, .int .i64 1, .int .i64 2] Z w wr) (fun c _=>3 - (intOf c).toNat)
  case atStart=>exact ⟨0,_,rfl,by omega,rfl,TB.out⟩
  case round =>
    obtain ⟨i,Z,rfl,hi,hZ,hR⟩:=hrel
    have hc : i = 0 ∨ i = 1 ∨ i = 2 ∨ i = 3:=by omega
    rcases hc with rfl | rfl | rfl | rfl
    · rw [show Z = [.int .i64 0, .int .i64 0, .int .i64 0] from hZ] at hR
      clear hZ hi
      have a0:=hR.rq.cellx 0 _ rfl
      have d0:=hR.rp.cellx 0 _ rfl
      have e0:=hR.rt.cellx 0 _ rfl
      have f0:=hR.rt.softx 0 _ rfl
      have N:=CN.out 0 (by decide)
      have N2 : ∀ W,Calls Tryd.prog 97 #[.int .i64 (s : Int), .int .i64 0] W fun e w'=>e = .returned (.bool (Pt.bit s 0)) ∧ w' = W:=N
      clear N
      have htc : Pt.tc less s 0 x1 x2 x3 = bif Pt.bit s 0 then -x1 - less else x1:=by unfold Pt.tc;rw [HK.out];rfl
      cases hb : Pt.bit s 0 with
      | false =>
        rw [hb] at htc N2
        have N3:=Lib.hid N2
        rw [show (bif false then -x1 - less else x1) = x1 from rfl] at htc
        have hR2:=hR.set 0 (.int .i64 x1) (by simp)
        have HR:=Lib.hid hR2
        have HTC:=Lib.hid htc
        clear htc hR2 hR N2 hb
        go_wp2_with fail
        refine (N3.out _).mono ?_
        rintro e w2 ⟨rfl,rfl⟩
        clear N3
        go_wp2_with fail
        first
          | exact ⟨⟨1,_,rfl,by omega,(by rw [show rfil0 less s x1 x2 x3 1 = [.int .i64 (Pt.tc less s 0 x1 x2 x3), .int .i64 0, .int .i64 0] from rfl,HTC.out];rfl),HR.out⟩,by simp [intOf]⟩
          | (go_roundw
             case rel=>exact ⟨1,_,rfl,by omega,(by rw [show rfil0 less s x1 x2 x3 1 = [.int .i64 (Pt.tc less s 0 x1 x2 x3), .int .i64 0, .int .i64 0] from rfl,HTC.out];rfl),HR.out⟩
             case measure=>simp [intOf])
      | true =>
        rw [hb] at htc N2
        have N3:=Lib.hid N2
        rw [show (bif true then -x1 - less else x1) = -x1 - less from rfl] at htc
        have hR2:=(hR.set 0 (.int .i64 x1) (by simp)).set 0 (.int .i64 (-x1 - less)) (by simp)
        have HR:=Lib.hid hR2
        have HTC:=Lib.hid htc
        clear htc hR2 hR N2 hb
        go_wp2_with fail
        refine (N3.out _).mono ?_
        rintro e w2 ⟨rfl,rfl⟩
        clear N3
        go_wp2_with fail
        first
          | exact ⟨⟨1,_,rfl,by omega,(by rw [show rfil0 less s x1 x2 x3 1 = [.int .i64 (Pt.tc less s 0 x1 x2 x3), .int .i64 0, .int .i64 0] from rfl,HTC.out];rfl),HR.out⟩,by simp [intOf]⟩
          | (go_roundw
             case rel=>exact ⟨1,_,rfl,by omega,(by rw [show rfil0 less s x1 x2 x3 1 = [.int .i64 (Pt.tc less s 0 x1 x2 x3), .int .i64 0, .int .i64 0] from rfl,HTC.out];rfl),HR.out⟩
             case measure=>simp [intOf])
    · rw [show Z = [.int .i64 (Pt.tc less s 0 x1 x2 x3), .int .i64 0, .int .i64 0] from hZ] at hR
      clear hZ hi
      have a1:=hR.rq.cellx 1 _ rfl
      have d1:=hR.rp.cellx 1 _ rfl
      have e1:=hR.rt.cellx 1 _ rfl
      have f1:=hR.rt.softx 1 _ rfl
      have N:=CN.out 1 (by decide)
      have N2 : ∀ W,Calls Tryd.prog 97 #[.int .i64 (s : Int), .int .i64 1] W fun e w'=>e = .returned (.bool (Pt.bit s 1)) ∧ w' = W:=N
      clear N
      have htc : Pt.tc less s 1 x1 x2 x3 = bif Pt.bit s 1 then -x2 - less else x2:=by unfold Pt.tc;rw [HK.out];rfl
      cases hb : Pt.bit s 1 with
      | false =>
        rw [hb] at htc N2
        have N3:=Lib.hid N2
        rw [show (bif false then -x2 - less else x2) = x2 from rfl] at htc
        have hR2:=hR.set 1 (.int .i64 x2) (by simp)
        have HR:=Lib.hid hR2
        have HTC:=Lib.hid htc
        clear htc hR2 hR N2 hb
        go_wp2_with fail
        refine (N3.out _).mono ?_
        rintro e w2 ⟨rfl,rfl⟩
        clear N3
        go_wp2_with fail
        first
          | exact ⟨⟨2,_,rfl,by omega,(by rw [show rfil0 less s x1 x2 x3 2 = [.int .i64 (Pt.tc less s 0 x1 x2 x3), .int .i64 (Pt.tc less s 1 x1 x2 x3), .int .i64 0] from rfl,HTC.out];rfl),HR.out⟩,by simp [intOf]⟩
          | (go_roundw
             case rel=>exact ⟨2,_,rfl,by omega,(by rw [show rfil0 less s x1 x2 x3 2 = [.int .i64 (Pt.tc less s 0 x1 x2 x3), .int .i64 (Pt.tc less s 1 x1 x2 x3), .int .i64 0] from rfl,HTC.out];rfl),HR.out⟩
             case measure=>simp [intOf])
      | true =>
        rw [hb] at htc N2
        have N3:=Lib.hid N2
        rw [show (bif true then -x2 - less else x2) = -x2 - less from rfl] at htc
        have hR2:=(hR.set 1 (.int .i64 x2) (by simp)).set 1 (.int .i64 (-x2 - less)) (by simp)
        have HR:=Lib.hid hR2
        have HTC:=Lib.hid htc
        clear htc hR2 hR N2 hb
        go_wp2_with fail
        refine (N3.out _).mono ?_
        rintro e w2 ⟨rfl,rfl⟩
        clear N3
        go_wp2_with fail
        first
          | exact ⟨⟨2,_,rfl,by omega,(by rw [show rfil0 less s x1 x2 x3 2 = [.int .i64 (Pt.tc less s 0 x1 x2 x3), .int .i64 (Pt.tc less s 1 x1 x2 x3), .int .i64 0] from rfl,HTC.out];rfl),HR.out⟩,by simp [intOf]⟩
          | (go_roundw
             case rel=>exact ⟨2,_,rfl,by omega,(by rw [show rfil0 less s x1 x2 x3 2 = [.int .i64 (Pt.tc less s 0 x1 x2 x3), .int .i64 (Pt.tc less s 1 x1 x2 x3), .int .i64 0] from rfl,HTC.out];rfl),HR.out⟩
             case measure=>simp [intOf])
    · rw [show Z = [.int .i64 (Pt.tc less s 0 x1 x2 x3), .int .i64 (Pt.tc less s 1 x1 x2 x3), .int .i64 0] from hZ] at hR
      clear hZ hi
      have a2:=hR.rq.cellx 2 _ rfl
      have d2:=hR.rp.cellx 2 _ rfl
      have e2:=hR.rt.cellx 2 _ rfl
      have f2:=hR.rt.softx 2 _ rfl
      have N:=CN.out 2 (by decide)
      have N2 : ∀ W,Calls Tryd.prog 97 #[.int .i64 (s : Int), .int .i64 2] W fun e w'=>e = .returned (.bool (Pt.bit s 2)) ∧ w' = W:=N
      clear N
      have htc : Pt.tc less s 2 x1 x2 x3 = bif Pt.bit s 2 then -x3 - less else x3:=by unfold Pt.tc;rw [HK.out];rfl
      cases hb : Pt.bit s 2 with
      | false =>
        rw [hb] at htc N2
        have N3:=Lib.hid N2
        rw [show (bif false then -x3 - less else x3) = x3 from rfl] at htc
        have hR2:=hR.set 2 (.int .i64 x3) (by simp)
        have HR:=Lib.hid hR2
        have HTC:=Lib.hid htc
        clear htc hR2 hR N2 hb
        go_wp2_with fail
        refine (N3.out _).mono ?_
        rintro e w2 ⟨rfl,rfl⟩
        clear N3
        go_wp2_with fail
        first
          | exact ⟨⟨3,_,rfl,by omega,(by rw [show rfil0 less s x1 x2 x3 3 = [.int .i64 (Pt.tc less s 0 x1 x2 x3), .int .i64 (Pt.tc less s 1 x1 x2 x3), .int .i64 (Pt.tc less s 2 x1 x2 x3)] from rfl,HTC.out];rfl),HR.out⟩,by simp [intOf]⟩
          | (go_roundw
             case rel=>exact ⟨3,_,rfl,by omega,(by rw [show rfil0 less s x1 x2 x3 3 = [.int .i64 (Pt.tc less s 0 x1 x2 x3), .int .i64 (Pt.tc less s 1 x1 x2 x3), .int .i64 (Pt.tc less s 2 x1 x2 x3)] from rfl,HTC.out];rfl),HR.out⟩
             case measure=>simp [intOf])
      | true =>
        rw [hb] at htc N2
        have N3:=Lib.hid N2
        rw [show (bif true then -x3 - less else x3) = -x3 - less from rfl] at htc
        have hR2:=(hR.set 2 (.int .i64 x3) (by simp)).set 2 (.int .i64 (-x3 - less)) (by simp)
        have HR:=Lib.hid hR2
        have HTC:=Lib.hid htc
        clear htc hR2 hR N2 hb
        go_wp2_with fail
        refine (N3.out _).mono ?_
        rintro e w2 ⟨rfl,rfl⟩
        clear N3
        go_wp2_with fail
        first
          | exact ⟨⟨3,_,rfl,by omega,(by rw [show rfil0 less s x1 x2 x3 3 = [.int .i64 (Pt.tc less s 0 x1 x2 x3), .int .i64 (Pt.tc less s 1 x1 x2 x3), .int .i64 (Pt.tc less s 2 x1 x2 x3)] from rfl,HTC.out];rfl),HR.out⟩,by simp [intOf]⟩
          | (go_roundw
             case rel=>exact ⟨3,_,rfl,by omega,(by rw [show rfil0 less s x1 x2 x3 3 = [.int .i64 (Pt.tc less s 0 x1 x2 x3), .int .i64 (Pt.tc less s 1 x1 x2 x3), .int .i64 (Pt.tc less s 2 x1 x2 x3)] from rfl,HTC.out];rfl),HR.out⟩
             case measure=>simp [intOf])
    · rw [show Z = [.int .i64 (Pt.tc less s 0 x1 x2 x3), .int .i64 (Pt.tc less s 1 x1 x2 x3), .int .i64 (Pt.tc less s 2 x1 x2 x3)] from hZ] at hR
      clear hZ hi
      have HR:=Lib.hid hR
      have e0:=hR.rt.cellx 0 _ rfl
      have e1:=hR.rt.cellx 1 _ rfl
      have e2:=hR.rt.cellx 2 _ rfl
      clear hR
      go_wp2_with fail
      refine (rof_any _ _ _ _).mono ?_
      rintro e w2 ⟨rfl,b2⟩
      have hR2:=HR.out.below b2
      have r0:=hR2.rr.cellx 0 _ rfl
      have s0:=hR2.rr.softx 0 _ rfl
      have r1:=hR2.rr.cellx 1 _ rfl
      have s1:=hR2.rr.softx 1 _ rfl
      have r2:=hR2.rr.cellx 2 _ rfl
      have s2:=hR2.rr.softx 2 _ rfl
      have HR2:=Lib.hid hR2
      clear hR2 b2
      go_wp2_with fail
      refine bodyPost_ret (results_cell_mid rfl _ _ _ (w.heap.size + 1) 0 [.int .i64 (Pt.tc less s 0 x1 x2 x3), .int .i64 (Pt.tc less s 1 x1 x2 x3), .int .i64 (Pt.tc less s 2 x1 x2 x3)] _ rfl (Row.over (D:=[.int .i64 (Pt.tc less s 0 x1 x2 x3), .int .i64 (Pt.tc less s 1 x1 x2 x3), .int .i64 (Pt.tc less s 2 x1 x2 x3)]) HR2.out.rr rfl).range Tryd.underlying23 rfl (by kernel_rfl)) rfl ?_
      exact ⟨rfl,below_setCells (by omega) [.int .i64 (Pt.tc less s 0 x1 x2 x3), .int .i64 (Pt.tc less s 1 x1 x2 x3), .int .i64 (Pt.tc less s 2 x1 x2 x3)] 0 _ _ HR2.out.bel⟩

def rfil1 (less : Int) (s : Nat) (x1 x2 x3 : Int) : Nat → List Value
  | 0=>[.int .i64 0, .int .i64 0, .int .i64 0]
  | 1=>[.int .i64 (Pt.tc less s 0 x1 x2 x3), .int .i64 0, .int .i64 0]
  | 2=>[.int .i64 (Pt.tc less s 0 x1 x2 x3), .int .i64 (Pt.tc less s 1 x1 x2 x3), .int .i64 0]
  | _=>[.int .i64 (Pt.tc less s 0 x1 x2 x3), .int .i64 (Pt.tc less s 1 x1 x2 x3), .int .i64 (Pt.tc less s 2 x1 x2 x3)]
set_option maxRecDepth 1000000 in
set_option maxHeartbeats 4000000 in
theorem rturned_o1 (s : Nat) (x1 x2 x3 less : Int) (w : World) (hs : s < 48) (hk : (s : Int) / 8 = 1) (h : (-2097152 ≤ x1 ∧ x1 ≤ 2097152) ∧ (-2097152 ≤ x2 ∧ x2 ≤ 2097152) ∧ (-2097152 ≤ x3 ∧ x3 ≤ 2097152)) (hl : 0 ≤ less ∧ less ≤ 1) :
    Calls Tryd.prog 68 #[.int .i64 (s : Int), .agg #[.int .i64 x1, .int .i64 x2, .int .i64 x3], .int .i64 less] w fun e w'=>e = .returned (.agg #[.int .i64 (Pt.tc less s 0 x1 x2 x3), .int .i64 (Pt.tc less s 1 x1 x2 x3), .int .i64 (Pt.tc less s 2 x1 x2 x3)]) ∧ Below w.heap.size w w':=by
  have CS : Hid (∀ W,Calls Tryd.prog 69 #[.int .i64 (s : Int)] W fun e w'=>e = .returned (.bool true) ∧ Below W.heap.size W w'):=Lib.hid (fun W=>by
    have:=is_any (s : Int) W
    rwa [decide_eq_true (show 0 ≤ (s : Int) ∧ (s : Int) < 48 by omega)] at this)
  have CN : Hid (∀ i : Nat,i < 3 → ∀ W,Calls Tryd.prog 97 #[.int .i64 (s : Int), .int .i64 (i : Int)] W fun e w'=>e = .returned (.bool (Pt.bit s i)) ∧ w' = W):=Lib.hid (fun i hi W=>rnegates_same s i W hs hi)
  have HK:=Lib.hid (show s / 8 = 1 by omega)
  have HKI:=Lib.hid hk
  obtain ⟨u,hu,r0,r1,g0⟩:=rows2 w [.int .i64 x1, .int .i64 x2, .int .i64 x3] 23 [.int .i64 0, .int .i64 0, .int .i64 0] 23
  have R0:=Lib.hid r0
  have R1:=Lib.hid r1
  have G0:=Lib.hid g0
  have HU:=Lib.hid hu
  clear hu g0 r0 r1
  go_enter Tryd.func68,Tryd.ntmps68
  go_upto_region 1 with fail
  rw [← HU.out]
  refine wpG_region ?_
  refine wpG_tk (some 13) (v:=.int .i64 (s : Int)) rfl (.val (by rfl) (fun _ _=>rfl)) ?_
  simp only [Act.put,List.setIfInBounds_toArray,List.set_cons_zero,List.set_cons_succ]
  refine wpG_tk (some 14) (v:=.bool true) rfl (.call (f:=69) (args:=#[.int .i64 (s : Int)]) (by rfl) (fun W=>by go_simp) (fun W hg=>CS.out W)) ?_
  simp only [Act.put,List.setIfInBounds_toArray,List.set_cons_zero,List.set_cons_succ]
  refine wpG_tk (some 7) (v:=.bool true) rfl (.val (by rfl) (fun _ _=>rfl)) ?_
  simp only [Act.put,List.setIfInBounds_toArray,List.set_cons_zero,List.set_cons_succ]
  refine wpG_done (fun V1 hv2=>?_)
  have GC3:=Lib.hid hv2
  clear hv2
  go_upto_region 2 with fail
  refine wpG_region ?_
  refine wpG_tk (some 15) (v:=.bool true) rfl (.val (by rfl) (fun _ _=>rfl)) ?_
  simp only [Act.put,List.setIfInBounds_toArray,List.set_cons_zero,List.set_cons_succ]
  refine wpG_tk (some 16) (v:=.bool false) rfl (.val (by rfl) (fun W hg=>by go_simp)) ?_
  simp only [Act.put,List.setIfInBounds_toArray,List.set_cons_zero,List.set_cons_succ]
  refine wpG_done (fun V4 hv5=>?_)
  have GC6:=Lib.hid (GC3.out.trans hv5)
  clear hv5
  go_upto_region 4 with fail
  refine wpG_region ?_
  refine wpG_tk (some 18) (v:=.agg #[.int .i64 x1, .int .i64 x2, .int .i64 x3]) rfl (.load_mid (by rfl) 23 (.tmp 4) rfl (w.heap.size) 0 rfl [.int .i64 x1, .int .i64 x2, .int .i64 x3] _ (fun W hg=>(R0.out.below (GC6.out.trans hg)).range) Tryd.underlying23 rfl (by kernel_rfl)) ?_
  simp only [Act.put,List.setIfInBounds_toArray,List.set_cons_zero,List.set_cons_succ]
  refine wpG_tk (some 19) (v:=.agg #[.int .i64 x1, .int .i64 x2, .int .i64 x3]) rfl (.call (f:=95) (args:=#[.agg #[.int .i64 x1, .int .i64 x2, .int .i64 x3]]) (by rfl) (fun W=>by go_simp) (fun W hg=>rlist_any x1 x2 x3 W)) ?_
  simp only [Act.put,List.setIfInBounds_toArray,List.set_cons_zero,List.set_cons_succ]
  refine wpG_val (some 8) rfl (by rfl) (fun W7 hg8=>⟨.pointer (some ⟨W7.heap.size,0,none⟩),W7.alloc (.cells #[.int .i64 0, .int .i64 0, .int .i64 0] 80),by (go_simp <;> rfl), ?_⟩)
  simp only [Act.put,List.setIfInBounds_toArray,List.set_cons_zero,List.set_cons_succ]
  refine wpG_store (none) rfl (by rfl) (fun W9 hg10=>⟨_,run_store_mid 80 (.tmp 8) (.tmp 19) rfl (W7.heap.size) 0 #[.int .i64 x1, .int .i64 x2, .int .i64 x3] rfl rfl (Row.room hg10 3 rfl) (by kernel_rfl) (by kernel_rfl), ?_⟩)
  simp only [Act.put]
  refine wpG_done (fun V11 hv12=>?_)
  have l14 : w.heap.size < W7.heap.size:=(R0.out.below (GC6.out.trans hg8)).lt
  have l15 : w.heap.size + 1 < W7.heap.size:=(R1.out.below (GC6.out.trans hg8)).lt
  have l16 : w.heap.size ≤ W7.heap.size:=(Gr.to G0.out (GC6.out.trans hg8)).size
  have R17:=Lib.hid ((R0.out.below (GC6.out.trans hg8)).past hg10 hv12)
  have R18:=Lib.hid ((R1.out.below (GC6.out.trans hg8)).past hg10 hv12)
  have R19:=Lib.hid (Row.made (zs:=[.int .i64 0, .int .i64 0, .int .i64 0]) (ds:=[.int .i64 x1, .int .i64 x2, .int .i64 x3]) rfl hg10 hv12)
  have G13:=Lib.hid (Gr.to (Gr.to G0.out (GC6.out.trans hg8)) (Gr.past hg10 hv12))
  clear hg10 hv12 
  go_upto_region 5 with fail
  refine wpG_region ?_
  refine wpG_tk (some 20) (v:=.int .i64 (s : Int)) rfl (.val (by rfl) (fun _ _=>rfl)) ?_
  simp only [Act.put,List.setIfInBounds_toArray,List.set_cons_zero,List.set_cons_succ]
  refine wpG_tk (some 21) (v:=.int .i64 1) rfl (.val (by rfl) (fun W hg=>by have q:=HKI.out;go_simp <;> rfl)) ?_
  simp only [Act.put,List.setIfInBounds_toArray,List.set_cons_zero,List.set_cons_succ]
  refine wpG_tk (some 22) (v:=.agg #[.int .i64 0, .int .i64 2, .int .i64 1]) rfl (.call (f:=96) (args:=#[.int .i64 1]) (by rfl) (fun W=>by go_simp) (fun W hg=>(by have c:=order_any 1 W (by decide);exact c))) ?_
  simp only [Act.put,List.setIfInBounds_toArray,List.set_cons_zero,List.set_cons_succ]
  refine wpG_val (some 9) rfl (by rfl) (fun W20 hg21=>⟨.pointer (some ⟨W20.heap.size,0,none⟩),W20.alloc (.cells #[.int .i64 0, .int .i64 0, .int .i64 0] 80),by (go_simp <;> rfl), ?_⟩)
  simp only [Act.put,List.setIfInBounds_toArray,List.set_cons_zero,List.set_cons_succ]
  refine wpG_store (none) rfl (by rfl) (fun W22 hg23=>⟨_,run_store_mid 80 (.tmp 9) (.tmp 22) rfl (W20.heap.size) 0 #[.int .i64 0, .int .i64 2, .int .i64 1] rfl rfl (Row.room hg23 3 rfl) (by kernel_rfl) (by kernel_rfl), ?_⟩)
  simp only [Act.put]
  refine wpG_done (fun V24 hv25=>?_)
  have l27 : w.heap.size < W20.heap.size:=(R17.out.below hg21).lt
  have l28 : w.heap.size + 1 < W20.heap.size:=(R18.out.below hg21).lt
  have l29 : W7.heap.size < W20.heap.size:=(R19.out.below hg21).lt
  have l30 : w.heap.size ≤ W20.heap.size:=(Gr.to G13.out hg21).size
  have R31:=Lib.hid ((R17.out.below hg21).past hg23 hv25)
  have R32:=Lib.hid ((R18.out.below hg21).past hg23 hv25)
  have R33:=Lib.hid ((R19.out.below hg21).past hg23 hv25)
  have R34:=Lib.hid (Row.made (zs:=[.int .i64 0, .int .i64 0, .int .i64 0]) (ds:=[.int .i64 0, .int .i64 2, .int .i64 1]) rfl hg23 hv25)
  have G26:=Lib.hid (Gr.to (Gr.to G13.out hg21) (Gr.past hg23 hv25))
  clear hg23 hv25 
  have TB:=Lib.hid (RR.begin (Z:=[.int .i64 0, .int .i64 0, .int .i64 0]) 80 R33.out R34.out R32.out (Row.lt R33.out) (Row.lt R34.out) (Row.lt R32.out) G26.out)
  clear HU
  go_wp2_with fail
  go_loopw [11] (fun c wr=>∃ i Z,c = .int .i64 ((i : Nat) : Int) ∧ i ≤ 3 ∧ Z = rfil1 less s x1 x2 x3 i ∧ RR (W7.heap.size) (W20.heap.size) V24.heap.size (w.heap.size + 1) [.int .i64 x1, .int .i64 x2, .int .i64 x3] [.int .i64 0, .int .i64 2, .int .i64 1] Z w wr) (fun c _=>3 - (intOf c).toNat)
  case atStart=>exact ⟨0,_,rfl,by omega,rfl,TB.out⟩
  case round =>
    obtain ⟨i,Z,rfl,hi,hZ,hR⟩:=hrel
    have hc : i = 0 ∨ i = 1 ∨ i = 2 ∨ i = 3:=by omega
    rcases hc with rfl | rfl | rfl | rfl
    · rw [show Z = [.int .i64 0, .int .i64 0, .int .i64 0] from hZ] at hR
      clear hZ hi
      have a0:=hR.rq.cellx 0 _ rfl
      have d0:=hR.rp.cellx 0 _ rfl
      have e0:=hR.rt.cellx 0 _ rfl
      have f0:=hR.rt.softx 0 _ rfl
      have N:=CN.out 0 (by decide)
      have N2 : ∀ W,Calls Tryd.prog 97 #[.int .i64 (s : Int), .int .i64 0] W fun e w'=>e = .returned (.bool (Pt.bit s 0)) ∧ w' = W:=N
      clear N
      have htc : Pt.tc less s 0 x1 x2 x3 = bif Pt.bit s 0 then -x1 - less else x1:=by unfold Pt.tc;rw [HK.out];rfl
      cases hb : Pt.bit s 0 with
      | false =>
        rw [hb] at htc N2
        have N3:=Lib.hid N2
        rw [show (bif false then -x1 - less else x1) = x1 from rfl] at htc
        have hR2:=hR.set 0 (.int .i64 x1) (by simp)
        have HR:=Lib.hid hR2
        have HTC:=Lib.hid htc
        clear htc hR2 hR N2 hb
        go_wp2_with fail
        refine (N3.out _).mono ?_
        rintro e w2 ⟨rfl,rfl⟩
        clear N3
        go_wp2_with fail
        first
          | exact ⟨⟨1,_,rfl,by omega,(by rw [show rfil1 less s x1 x2 x3 1 = [.int .i64 (Pt.tc less s 0 x1 x2 x3), .int .i64 0, .int .i64 0] from rfl,HTC.out];rfl),HR.out⟩,by simp [intOf]⟩
          | (go_roundw
             case rel=>exact ⟨1,_,rfl,by omega,(by rw [show rfil1 less s x1 x2 x3 1 = [.int .i64 (Pt.tc less s 0 x1 x2 x3), .int .i64 0, .int .i64 0] from rfl,HTC.out];rfl),HR.out⟩
             case measure=>simp [intOf])
      | true =>
        rw [hb] at htc N2
        have N3:=Lib.hid N2
        rw [show (bif true then -x1 - less else x1) = -x1 - less from rfl] at htc
        have hR2:=(hR.set 0 (.int .i64 x1) (by simp)).set 0 (.int .i64 (-x1 - less)) (by simp)
        have HR:=Lib.hid hR2
        have HTC:=Lib.hid htc
        clear htc hR2 hR N2 hb
        go_wp2_with fail
        refine (N3.out _).mono ?_
        rintro e w2 ⟨rfl,rfl⟩
        clear N3
        go_wp2_with fail
        first
          | exact ⟨⟨1,_,rfl,by omega,(by rw [show rfil1 less s x1 x2 x3 1 = [.int .i64 (Pt.tc less s 0 x1 x2 x3), .int .i64 0, .int .i64 0] from rfl,HTC.out];rfl),HR.out⟩,by simp [intOf]⟩
          | (go_roundw
             case rel=>exact ⟨1,_,rfl,by omega,(by rw [show rfil1 less s x1 x2 x3 1 = [.int .i64 (Pt.tc less s 0 x1 x2 x3), .int .i64 0, .int .i64 0] from rfl,HTC.out];rfl),HR.out⟩
             case measure=>simp [intOf])
    · rw [show Z = [.int .i64 (Pt.tc less s 0 x1 x2 x3), .int .i64 0, .int .i64 0] from hZ] at hR
      clear hZ hi
      have a1:=hR.rq.cellx 1 _ rfl
      have d2:=hR.rp.cellx 2 _ rfl
      have e1:=hR.rt.cellx 1 _ rfl
      have f1:=hR.rt.softx 1 _ rfl
      have N:=CN.out 1 (by decide)
      have N2 : ∀ W,Calls Tryd.prog 97 #[.int .i64 (s : Int), .int .i64 1] W fun e w'=>e = .returned (.bool (Pt.bit s 1)) ∧ w' = W:=N
      clear N
      have htc : Pt.tc less s 1 x1 x2 x3 = bif Pt.bit s 1 then -x3 - less else x3:=by unfold Pt.tc;rw [HK.out];rfl
      cases hb : Pt.bit s 1 with
      | false =>
        rw [hb] at htc N2
        have N3:=Lib.hid N2
        rw [show (bif false then -x3 - less else x3) = x3 from rfl] at htc
        have hR2:=hR.set 1 (.int .i64 x3) (by simp)
        have HR:=Lib.hid hR2
        have HTC:=Lib.hid htc
        clear htc hR2 hR N2 hb
        go_wp2_with fail
        refine (N3.out _).mono ?_
        rintro e w2 ⟨rfl,rfl⟩
        clear N3
        go_wp2_with fail
        first
          | exact ⟨⟨2,_,rfl,by omega,(by rw [show rfil1 less s x1 x2 x3 2 = [.int .i64 (Pt.tc less s 0 x1 x2 x3), .int .i64 (Pt.tc less s 1 x1 x2 x3), .int .i64 0] from rfl,HTC.out];rfl),HR.out⟩,by simp [intOf]⟩
          | (go_roundw
             case rel=>exact ⟨2,_,rfl,by omega,(by rw [show rfil1 less s x1 x2 x3 2 = [.int .i64 (Pt.tc less s 0 x1 x2 x3), .int .i64 (Pt.tc less s 1 x1 x2 x3), .int .i64 0] from rfl,HTC.out];rfl),HR.out⟩
             case measure=>simp [intOf])
      | true =>
        rw [hb] at htc N2
        have N3:=Lib.hid N2
        rw [show (bif true then -x3 - less else x3) = -x3 - less from rfl] at htc
        have hR2:=(hR.set 1 (.int .i64 x3) (by simp)).set 1 (.int .i64 (-x3 - less)) (by simp)
        have HR:=Lib.hid hR2
        have HTC:=Lib.hid htc
        clear htc hR2 hR N2 hb
        go_wp2_with fail
        refine (N3.out _).mono ?_
        rintro e w2 ⟨rfl,rfl⟩
        clear N3
        go_wp2_with fail
        first
          | exact ⟨⟨2,_,rfl,by omega,(by rw [show rfil1 less s x1 x2 x3 2 = [.int .i64 (Pt.tc less s 0 x1 x2 x3), .int .i64 (Pt.tc less s 1 x1 x2 x3), .int .i64 0] from rfl,HTC.out];rfl),HR.out⟩,by simp [intOf]⟩
          | (go_roundw
             case rel=>exact ⟨2,_,rfl,by omega,(by rw [show rfil1 less s x1 x2 x3 2 = [.int .i64 (Pt.tc less s 0 x1 x2 x3), .int .i64 (Pt.tc less s 1 x1 x2 x3), .int .i64 0] from rfl,HTC.out];rfl),HR.out⟩
             case measure=>simp [intOf])
    · rw [show Z = [.int .i64 (Pt.tc less s 0 x1 x2 x3), .int .i64 (Pt.tc less s 1 x1 x2 x3), .int .i64 0] from hZ] at hR
      clear hZ hi
      have a2:=hR.rq.cellx 2 _ rfl
      have d1:=hR.rp.cellx 1 _ rfl
      have e2:=hR.rt.cellx 2 _ rfl
      have f2:=hR.rt.softx 2 _ rfl
      have N:=CN.out 2 (by decide)
      have N2 : ∀ W,Calls Tryd.prog 97 #[.int .i64 (s : Int), .int .i64 2] W fun e w'=>e = .returned (.bool (Pt.bit s 2)) ∧ w' = W:=N
      clear N
      have htc : Pt.tc less s 2 x1 x2 x3 = bif Pt.bit s 2 then -x2 - less else x2:=by unfold Pt.tc;rw [HK.out];rfl
      cases hb : Pt.bit s 2 with
      | false =>
        rw [hb] at htc N2
        have N3:=Lib.hid N2
        rw [show (bif false then -x2 - less else x2) = x2 from rfl] at htc
        have hR2:=hR.set 2 (.int .i64 x2) (by simp)
        have HR:=Lib.hid hR2
        have HTC:=Lib.hid htc
        clear htc hR2 hR N2 hb
        go_wp2_with fail
        refine (N3.out _).mono ?_
        rintro e w2 ⟨rfl,rfl⟩
        clear N3
        go_wp2_with fail
        first
          | exact ⟨⟨3,_,rfl,by omega,(by rw [show rfil1 less s x1 x2 x3 3 = [.int .i64 (Pt.tc less s 0 x1 x2 x3), .int .i64 (Pt.tc less s 1 x1 x2 x3), .int .i64 (Pt.tc less s 2 x1 x2 x3)] from rfl,HTC.out];rfl),HR.out⟩,by simp [intOf]⟩
          | (go_roundw
             case rel=>exact ⟨3,_,rfl,by omega,(by rw [show rfil1 less s x1 x2 x3 3 = [.int .i64 (Pt.tc less s 0 x1 x2 x3), .int .i64 (Pt.tc less s 1 x1 x2 x3), .int .i64 (Pt.tc less s 2 x1 x2 x3)] from rfl,HTC.out];rfl),HR.out⟩
             case measure=>simp [intOf])
      | true =>
        rw [hb] at htc N2
        have N3:=Lib.hid N2
        rw [show (bif true then -x2 - less else x2) = -x2 - less from rfl] at htc
        have hR2:=(hR.set 2 (.int .i64 x2) (by simp)).set 2 (.int .i64 (-x2 - less)) (by simp)
        have HR:=Lib.hid hR2
        have HTC:=Lib.hid htc
        clear htc hR2 hR N2 hb
        go_wp2_with fail
        refine (N3.out _).mono ?_
        rintro e w2 ⟨rfl,rfl⟩
        clear N3
        go_wp2_with fail
        first
          | exact ⟨⟨3,_,rfl,by omega,(by rw [show rfil1 less s x1 x2 x3 3 = [.int .i64 (Pt.tc less s 0 x1 x2 x3), .int .i64 (Pt.tc less s 1 x1 x2 x3), .int .i64 (Pt.tc less s 2 x1 x2 x3)] from rfl,HTC.out];rfl),HR.out⟩,by simp [intOf]⟩
          | (go_roundw
             case rel=>exact ⟨3,_,rfl,by omega,(by rw [show rfil1 less s x1 x2 x3 3 = [.int .i64 (Pt.tc less s 0 x1 x2 x3), .int .i64 (Pt.tc less s 1 x1 x2 x3), .int .i64 (Pt.tc less s 2 x1 x2 x3)] from rfl,HTC.out];rfl),HR.out⟩
             case measure=>simp [intOf])
    · rw [show Z = [.int .i64 (Pt.tc less s 0 x1 x2 x3), .int .i64 (Pt.tc less s 1 x1 x2 x3), .int .i64 (Pt.tc less s 2 x1 x2 x3)] from hZ] at hR
      clear hZ hi
      have HR:=Lib.hid hR
      have e0:=hR.rt.cellx 0 _ rfl
      have e1:=hR.rt.cellx 1 _ rfl
      have e2:=hR.rt.cellx 2 _ rfl
      clear hR
      go_wp2_with fail
      refine (rof_any _ _ _ _).mono ?_
      rintro e w2 ⟨rfl,b2⟩
      have hR2:=HR.out.below b2
      have r0:=hR2.rr.cellx 0 _ rfl
      have s0:=hR2.rr.softx 0 _ rfl
      have r1:=hR2.rr.cellx 1 _ rfl
      have s1:=hR2.rr.softx 1 _ rfl
      have r2:=hR2.rr.cellx 2 _ rfl
      have s2:=hR2.rr.softx 2 _ rfl
      have HR2:=Lib.hid hR2
      clear hR2 b2
      go_wp2_with fail
      refine bodyPost_ret (results_cell_mid rfl _ _ _ (w.heap.size + 1) 0 [.int .i64 (Pt.tc less s 0 x1 x2 x3), .int .i64 (Pt.tc less s 1 x1 x2 x3), .int .i64 (Pt.tc less s 2 x1 x2 x3)] _ rfl (Row.over (D:=[.int .i64 (Pt.tc less s 0 x1 x2 x3), .int .i64 (Pt.tc less s 1 x1 x2 x3), .int .i64 (Pt.tc less s 2 x1 x2 x3)]) HR2.out.rr rfl).range Tryd.underlying23 rfl (by kernel_rfl)) rfl ?_
      exact ⟨rfl,below_setCells (by omega) [.int .i64 (Pt.tc less s 0 x1 x2 x3), .int .i64 (Pt.tc less s 1 x1 x2 x3), .int .i64 (Pt.tc less s 2 x1 x2 x3)] 0 _ _ HR2.out.bel⟩

def rfil2 (less : Int) (s : Nat) (x1 x2 x3 : Int) : Nat → List Value
  | 0=>[.int .i64 0, .int .i64 0, .int .i64 0]
  | 1=>[.int .i64 (Pt.tc less s 0 x1 x2 x3), .int .i64 0, .int .i64 0]
  | 2=>[.int .i64 (Pt.tc less s 0 x1 x2 x3), .int .i64 (Pt.tc less s 1 x1 x2 x3), .int .i64 0]
  | _=>[.int .i64 (Pt.tc less s 0 x1 x2 x3), .int .i64 (Pt.tc less s 1 x1 x2 x3), .int .i64 (Pt.tc less s 2 x1 x2 x3)]
set_option maxRecDepth 1000000 in
set_option maxHeartbeats 4000000 in
theorem rturned_o2 (s : Nat) (x1 x2 x3 less : Int) (w : World) (hs : s < 48) (hk : (s : Int) / 8 = 2) (h : (-2097152 ≤ x1 ∧ x1 ≤ 2097152) ∧ (-2097152 ≤ x2 ∧ x2 ≤ 2097152) ∧ (-2097152 ≤ x3 ∧ x3 ≤ 2097152)) (hl : 0 ≤ less ∧ less ≤ 1) :
    Calls Tryd.prog 68 #[.int .i64 (s : Int), .agg #[.int .i64 x1, .int .i64 x2, .int .i64 x3], .int .i64 less] w fun e w'=>e = .returned (.agg #[.int .i64 (Pt.tc less s 0 x1 x2 x3), .int .i64 (Pt.tc less s 1 x1 x2 x3), .int .i64 (Pt.tc less s 2 x1 x2 x3)]) ∧ Below w.heap.size w w':=by
  have CS : Hid (∀ W,Calls Tryd.prog 69 #[.int .i64 (s : Int)] W fun e w'=>e = .returned (.bool true) ∧ Below W.heap.size W w'):=Lib.hid (fun W=>by
    have:=is_any (s : Int) W
    rwa [decide_eq_true (show 0 ≤ (s : Int) ∧ (s : Int) < 48 by omega)] at this)
  have CN : Hid (∀ i : Nat,i < 3 → ∀ W,Calls Tryd.prog 97 #[.int .i64 (s : Int), .int .i64 (i : Int)] W fun e w'=>e = .returned (.bool (Pt.bit s i)) ∧ w' = W):=Lib.hid (fun i hi W=>rnegates_same s i W hs hi)
  have HK:=Lib.hid (show s / 8 = 2 by omega)
  have HKI:=Lib.hid hk
  obtain ⟨u,hu,r0,r1,g0⟩:=rows2 w [.int .i64 x1, .int .i64 x2, .int .i64 x3] 23 [.int .i64 0, .int .i64 0, .int .i64 0] 23
  have R0:=Lib.hid r0
  have R1:=Lib.hid r1
  have G0:=Lib.hid g0
  have HU:=Lib.hid hu
  clear hu g0 r0 r1
  go_enter Tryd.func68,Tryd.ntmps68
  go_upto_region 1 with fail
  rw [← HU.out]
  refine wpG_region ?_
  refine wpG_tk (some 13) (v:=.int .i64 (s : Int)) rfl (.val (by rfl) (fun _ _=>rfl)) ?_
  simp only [Act.put,List.setIfInBounds_toArray,List.set_cons_zero,List.set_cons_succ]
  refine wpG_tk (some 14) (v:=.bool true) rfl (.call (f:=69) (args:=#[.int .i64 (s : Int)]) (by rfl) (fun W=>by go_simp) (fun W hg=>CS.out W)) ?_
  simp only [Act.put,List.setIfInBounds_toArray,List.set_cons_zero,List.set_cons_succ]
  refine wpG_tk (some 7) (v:=.bool true) rfl (.val (by rfl) (fun _ _=>rfl)) ?_
  simp only [Act.put,List.setIfInBounds_toArray,List.set_cons_zero,List.set_cons_succ]
  refine wpG_done (fun V1 hv2=>?_)
  have GC3:=Lib.hid hv2
  clear hv2
  go_upto_region 2 with fail
  refine wpG_region ?_
  refine wpG_tk (some 15) (v:=.bool true) rfl (.val (by rfl) (fun _ _=>rfl)) ?_
  simp only [Act.put,List.setIfInBounds_toArray,List.set_cons_zero,List.set_cons_succ]
  refine wpG_tk (some 16) (v:=.bool false) rfl (.val (by rfl) (fun W hg=>by go_simp)) ?_
  simp only [Act.put,List.setIfInBounds_toArray,List.set_cons_zero,List.set_cons_succ]
  refine wpG_done (fun V4 hv5=>?_)
  have GC6:=Lib.hid (GC3.out.trans hv5)
  clear hv5
  go_upto_region 4 with fail
  refine wpG_region ?_
  refine wpG_tk (some 18) (v:=.agg #[.int .i64 x1, .int .i64 x2, .int .i64 x3]) rfl (.load_mid (by rfl) 23 (.tmp 4) rfl (w.heap.size) 0 rfl [.int .i64 x1, .int .i64 x2, .int .i64 x3] _ (fun W hg=>(R0.out.below (GC6.out.trans hg)).range) Tryd.underlying23 rfl (by kernel_rfl)) ?_
  simp only [Act.put,List.setIfInBounds_toArray,List.set_cons_zero,List.set_cons_succ]
  refine wpG_tk (some 19) (v:=.agg #[.int .i64 x1, .int .i64 x2, .int .i64 x3]) rfl (.call (f:=95) (args:=#[.agg #[.int .i64 x1, .int .i64 x2, .int .i64 x3]]) (by rfl) (fun W=>by go_simp) (fun W hg=>rlist_any x1 x2 x3 W)) ?_
  simp only [Act.put,List.setIfInBounds_toArray,List.set_cons_zero,List.set_cons_succ]
  refine wpG_val (some 8) rfl (by rfl) (fun W7 hg8=>⟨.pointer (some ⟨W7.heap.size,0,none⟩),W7.alloc (.cells #[.int .i64 0, .int .i64 0, .int .i64 0] 80),by (go_simp <;> rfl), ?_⟩)
  simp only [Act.put,List.setIfInBounds_toArray,List.set_cons_zero,List.set_cons_succ]
  refine wpG_store (none) rfl (by rfl) (fun W9 hg10=>⟨_,run_store_mid 80 (.tmp 8) (.tmp 19) rfl (W7.heap.size) 0 #[.int .i64 x1, .int .i64 x2, .int .i64 x3] rfl rfl (Row.room hg10 3 rfl) (by kernel_rfl) (by kernel_rfl), ?_⟩)
  simp only [Act.put]
  refine wpG_done (fun V11 hv12=>?_)
  have l14 : w.heap.size < W7.heap.size:=(R0.out.below (GC6.out.trans hg8)).lt
  have l15 : w.heap.size + 1 < W7.heap.size:=(R1.out.below (GC6.out.trans hg8)).lt
  have l16 : w.heap.size ≤ W7.heap.size:=(Gr.to G0.out (GC6.out.trans hg8)).size
  have R17:=Lib.hid ((R0.out.below (GC6.out.trans hg8)).past hg10 hv12)
  have R18:=Lib.hid ((R1.out.below (GC6.out.trans hg8)).past hg10 hv12)
  have R19:=Lib.hid (Row.made (zs:=[.int .i64 0, .int .i64 0, .int .i64 0]) (ds:=[.int .i64 x1, .int .i64 x2, .int .i64 x3]) rfl hg10 hv12)
  have G13:=Lib.hid (Gr.to (Gr.to G0.out (GC6.out.trans hg8)) (Gr.past hg10 hv12))
  clear hg10 hv12 
  go_upto_region 5 with fail
  refine wpG_region ?_
  refine wpG_tk (some 20) (v:=.int .i64 (s : Int)) rfl (.val (by rfl) (fun _ _=>rfl)) ?_
  simp only [Act.put,List.setIfInBounds_toArray,List.set_cons_zero,List.set_cons_succ]
  refine wpG_tk (some 21) (v:=.int .i64 2) rfl (.val (by rfl) (fun W hg=>by have q:=HKI.out;go_simp <;> rfl)) ?_
  simp only [Act.put,List.setIfInBounds_toArray,List.set_cons_zero,List.set_cons_succ]
  refine wpG_tk (some 22) (v:=.agg #[.int .i64 1, .int .i64 0, .int .i64 2]) rfl (.call (f:=96) (args:=#[.int .i64 2]) (by rfl) (fun W=>by go_simp) (fun W hg=>(by have c:=order_any 2 W (by decide);exact c))) ?_
  simp only [Act.put,List.setIfInBounds_toArray,List.set_cons_zero,List.set_cons_succ]
  refine wpG_val (some 9) rfl (by rfl) (fun W20 hg21=>⟨.pointer (some ⟨W20.heap.size,0,none⟩),W20.alloc (.cells #[.int .i64 0, .int .i64 0, .int .i64 0] 80),by (go_simp <;> rfl), ?_⟩)
  simp only [Act.put,List.setIfInBounds_toArray,List.set_cons_zero,List.set_cons_succ]
  refine wpG_store (none) rfl (by rfl) (fun W22 hg23=>⟨_,run_store_mid 80 (.tmp 9) (.tmp 22) rfl (W20.heap.size) 0 #[.int .i64 1, .int .i64 0, .int .i64 2] rfl rfl (Row.room hg23 3 rfl) (by kernel_rfl) (by kernel_rfl), ?_⟩)
  simp only [Act.put]
  refine wpG_done (fun V24 hv25=>?_)
  have l27 : w.heap.size < W20.heap.size:=(R17.out.below hg21).lt
  have l28 : w.heap.size + 1 < W20.heap.size:=(R18.out.below hg21).lt
  have l29 : W7.heap.size < W20.heap.size:=(R19.out.below hg21).lt
  have l30 : w.heap.size ≤ W20.heap.size:=(Gr.to G13.out hg21).size
  have R31:=Lib.hid ((R17.out.below hg21).past hg23 hv25)
  have R32:=Lib.hid ((R18.out.below hg21).past hg23 hv25)
  have R33:=Lib.hid ((R19.out.below hg21).past hg23 hv25)
  have R34:=Lib.hid (Row.made (zs:=[.int .i64 0, .int .i64 0, .int .i64 0]) (ds:=[.int .i64 1, .int .i64 0, .int .i64 2]) rfl hg23 hv25)
  have G26:=Lib.hid (Gr.to (Gr.to G13.out hg21) (Gr.past hg23 hv25))
  clear hg23 hv25 
  have TB:=Lib.hid (RR.begin (Z:=[.int .i64 0, .int .i64 0, .int .i64 0]) 80 R33.out R34.out R32.out (Row.lt R33.out) (Row.lt R34.out) (Row.lt R32.out) G26.out)
  clear HU
  go_wp2_with fail
  go_loopw [11] (fun c wr=>∃ i Z,c = .int .i64 ((i : Nat) : Int) ∧ i ≤ 3 ∧ Z = rfil2 less s x1 x2 x3 i ∧ RR (W7.heap.size) (W20.heap.size) V24.heap.size (w.heap.size + 1) [.int .i64 x1, .int .i64 x2, .int .i64 x3] [.int .i64 1, .int .i64 0, .int .i64 2] Z w wr) (fun c _=>3 - (intOf c).toNat)
  case atStart=>exact ⟨0,_,rfl,by omega,rfl,TB.out⟩
  case round =>
    obtain ⟨i,Z,rfl,hi,hZ,hR⟩:=hrel
    have hc : i = 0 ∨ i = 1 ∨ i = 2 ∨ i = 3:=by omega
    rcases hc with rfl | rfl | rfl | rfl
    · rw [show Z = [.int .i64 0, .int .i64 0, .int .i64 0] from hZ] at hR
      clear hZ hi
      have a0:=hR.rq.cellx 0 _ rfl
      have d1:=hR.rp.cellx 1 _ rfl
      have e0:=hR.rt.cellx 0 _ rfl
      have f0:=hR.rt.softx 0 _ rfl
      have N:=CN.out 0 (by decide)
      have N2 : ∀ W,Calls Tryd.prog 97 #[.int .i64 (s : Int), .int .i64 0] W fun e w'=>e = .returned (.bool (Pt.bit s 0)) ∧ w' = W:=N
      clear N
      have htc : Pt.tc less s 0 x1 x2 x3 = bif Pt.bit s 0 then -x2 - less else x2:=by unfold Pt.tc;rw [HK.out];rfl
      cases hb : Pt.bit s 0 with
      | false =>
        rw [hb] at htc N2
        have N3:=Lib.hid N2
        rw [show (bif false then -x2 - less else x2) = x2 from rfl] at htc
        have hR2:=hR.set 0 (.int .i64 x2) (by simp)
        have HR:=Lib.hid hR2
        have HTC:=Lib.hid htc
        clear htc hR2 hR N2 hb
        go_wp2_with fail
        refine (N3.out _).mono ?_
        rintro e w2 ⟨rfl,rfl⟩
        clear N3
        go_wp2_with fail
        first
          | exact ⟨⟨1,_,rfl,by omega,(by rw [show rfil2 less s x1 x2 x3 1 = [.int .i64 (Pt.tc less s 0 x1 x2 x3), .int .i64 0, .int .i64 0] from rfl,HTC.out];rfl),HR.out⟩,by simp [intOf]⟩
          | (go_roundw
             case rel=>exact ⟨1,_,rfl,by omega,(by rw [show rfil2 less s x1 x2 x3 1 = [.int .i64 (Pt.tc less s 0 x1 x2 x3), .int .i64 0, .int .i64 0] from rfl,HTC.out];rfl),HR.out⟩
             case measure=>simp [intOf])
      | true =>
        rw [hb] at htc N2
        have N3:=Lib.hid N2
        rw [show (bif true then -x2 - less else x2) = -x2 - less from rfl] at htc
        have hR2:=(hR.set 0 (.int .i64 x2) (by simp)).set 0 (.int .i64 (-x2 - less)) (by simp)
        have HR:=Lib.hid hR2
        have HTC:=Lib.hid htc
        clear htc hR2 hR N2 hb
        go_wp2_with fail
        refine (N3.out _).mono ?_
        rintro e w2 ⟨rfl,rfl⟩
        clear N3
        go_wp2_with fail
        first
          | exact ⟨⟨1,_,rfl,by omega,(by rw [show rfil2 less s x1 x2 x3 1 = [.int .i64 (Pt.tc less s 0 x1 x2 x3), .int .i64 0, .int .i64 0] from rfl,HTC.out];rfl),HR.out⟩,by simp [intOf]⟩
          | (go_roundw
             case rel=>exact ⟨1,_,rfl,by omega,(by rw [show rfil2 less s x1 x2 x3 1 = [.int .i64 (Pt.tc less s 0 x1 x2 x3), .int .i64 0, .int .i64 0] from rfl,HTC.out];rfl),HR.out⟩
             case measure=>simp [intOf])
    · rw [show Z = [.int .i64 (Pt.tc less s 0 x1 x2 x3), .int .i64 0, .int .i64 0] from hZ] at hR
      clear hZ hi
      have a1:=hR.rq.cellx 1 _ rfl
      have d0:=hR.rp.cellx 0 _ rfl
      have e1:=hR.rt.cellx 1 _ rfl
      have f1:=hR.rt.softx 1 _ rfl
      have N:=CN.out 1 (by decide)
      have N2 : ∀ W,Calls Tryd.prog 97 #[.int .i64 (s : Int), .int .i64 1] W fun e w'=>e = .returned (.bool (Pt.bit s 1)) ∧ w' = W:=N
      clear N
      have htc : Pt.tc less s 1 x1 x2 x3 = bif Pt.bit s 1 then -x1 - less else x1:=by unfold Pt.tc;rw [HK.out];rfl
      cases hb : Pt.bit s 1 with
      | false =>
        rw [hb] at htc N2
        have N3:=Lib.hid N2
        rw [show (bif false then -x1 - less else x1) = x1 from rfl] at htc
        have hR2:=hR.set 1 (.int .i64 x1) (by simp)
        have HR:=Lib.hid hR2
        have HTC:=Lib.hid htc
        clear htc hR2 hR N2 hb
        go_wp2_with fail
        refine (N3.out _).mono ?_
        rintro e w2 ⟨rfl,rfl⟩
        clear N3
        go_wp2_with fail
        first
          | exact ⟨⟨2,_,rfl,by omega,(by rw [show rfil2 less s x1 x2 x3 2 = [.int .i64 (Pt.tc less s 0 x1 x2 x3), .int .i64 (Pt.tc less s 1 x1 x2 x3), .int .i64 0] from rfl,HTC.out];rfl),HR.out⟩,by simp [intOf]⟩
          | (go_roundw
             case rel=>exact ⟨2,_,rfl,by omega,(by rw [show rfil2 less s x1 x2 x3 2 = [.int .i64 (Pt.tc less s 0 x1 x2 x3), .int .i64 (Pt.tc less s 1 x1 x2 x3), .int .i64 0] from rfl,HTC.out];rfl),HR.out⟩
             case measure=>simp [intOf])
      | true =>
        rw [hb] at htc N2
        have N3:=Lib.hid N2
        rw [show (bif true then -x1 - less else x1) = -x1 - less from rfl] at htc
        have hR2:=(hR.set 1 (.int .i64 x1) (by simp)).set 1 (.int .i64 (-x1 - less)) (by simp)
        have HR:=Lib.hid hR2
        have HTC:=Lib.hid htc
        clear htc hR2 hR N2 hb
        go_wp2_with fail
        refine (N3.out _).mono ?_
        rintro e w2 ⟨rfl,rfl⟩
        clear N3
        go_wp2_with fail
        first
          | exact ⟨⟨2,_,rfl,by omega,(by rw [show rfil2 less s x1 x2 x3 2 = [.int .i64 (Pt.tc less s 0 x1 x2 x3), .int .i64 (Pt.tc less s 1 x1 x2 x3), .int .i64 0] from rfl,HTC.out];rfl),HR.out⟩,by simp [intOf]⟩
          | (go_roundw
             case rel=>exact ⟨2,_,rfl,by omega,(by rw [show rfil2 less s x1 x2 x3 2 = [.int .i64 (Pt.tc less s 0 x1 x2 x3), .int .i64 (Pt.tc less s 1 x1 x2 x3), .int .i64 0] from rfl,HTC.out];rfl),HR.out⟩
             case measure=>simp [intOf])
    · rw [show Z = [.int .i64 (Pt.tc less s 0 x1 x2 x3), .int .i64 (Pt.tc less s 1 x1 x2 x3), .int .i64 0] from hZ] at hR
      clear hZ hi
      have a2:=hR.rq.cellx 2 _ rfl
      have d2:=hR.rp.cellx 2 _ rfl
      have e2:=hR.rt.cellx 2 _ rfl
      have f2:=hR.rt.softx 2 _ rfl
      have N:=CN.out 2 (by decide)
      have N2 : ∀ W,Calls Tryd.prog 97 #[.int .i64 (s : Int), .int .i64 2] W fun e w'=>e = .returned (.bool (Pt.bit s 2)) ∧ w' = W:=N
      clear N
      have htc : Pt.tc less s 2 x1 x2 x3 = bif Pt.bit s 2 then -x3 - less else x3:=by unfold Pt.tc;rw [HK.out];rfl
      cases hb : Pt.bit s 2 with
      | false =>
        rw [hb] at htc N2
        have N3:=Lib.hid N2
        rw [show (bif false then -x3 - less else x3) = x3 from rfl] at htc
        have hR2:=hR.set 2 (.int .i64 x3) (by simp)
        have HR:=Lib.hid hR2
        have HTC:=Lib.hid htc
        clear htc hR2 hR N2 hb
        go_wp2_with fail
        refine (N3.out _).mono ?_
        rintro e w2 ⟨rfl,rfl⟩
        clear N3
        go_wp2_with fail
        first
          | exact ⟨⟨3,_,rfl,by omega,(by rw [show rfil2 less s x1 x2 x3 3 = [.int .i64 (Pt.tc less s 0 x1 x2 x3), .int .i64 (Pt.tc less s 1 x1 x2 x3), .int .i64 (Pt.tc less s 2 x1 x2 x3)] from rfl,HTC.out];rfl),HR.out⟩,by simp [intOf]⟩
          | (go_roundw
             case rel=>exact ⟨3,_,rfl,by omega,(by rw [show rfil2 less s x1 x2 x3 3 = [.int .i64 (Pt.tc less s 0 x1 x2 x3), .int .i64 (Pt.tc less s 1 x1 x2 x3), .int .i64 (Pt.tc less s 2 x1 x2 x3)] from rfl,HTC.out];rfl),HR.out⟩
             case measure=>simp [intOf])
      | true =>
        rw [hb] at htc N2
        have N3:=Lib.hid N2
        rw [show (bif true then -x3 - less else x3) = -x3 - less from rfl] at htc
        have hR2:=(hR.set 2 (.int .i64 x3) (by simp)).set 2 (.int .i64 (-x3 - less)) (by simp)
        have HR:=Lib.hid hR2
        have HTC:=Lib.hid htc
        clear htc hR2 hR N2 hb
        go_wp2_with fail
        refine (N3.out _).mono ?_
        rintro e w2 ⟨rfl,rfl⟩
        clear N3
        go_wp2_with fail
        first
          | exact ⟨⟨3,_,rfl,by omega,(by rw [show rfil2 less s x1 x2 x3 3 = [.int .i64 (Pt.tc less s 0 x1 x2 x3), .int .i64 (Pt.tc less s 1 x1 x2 x3), .int .i64 (Pt.tc less s 2 x1 x2 x3)] from rfl,HTC.out];rfl),HR.out⟩,by simp [intOf]⟩
          | (go_roundw
             case rel=>exact ⟨3,_,rfl,by omega,(by rw [show rfil2 less s x1 x2 x3 3 = [.int .i64 (Pt.tc less s 0 x1 x2 x3), .int .i64 (Pt.tc less s 1 x1 x2 x3), .int .i64 (Pt.tc less s 2 x1 x2 x3)] from rfl,HTC.out];rfl),HR.out⟩
             case measure=>simp [intOf])
    · rw [show Z = [.int .i64 (Pt.tc less s 0 x1 x2 x3), .int .i64 (Pt.tc less s 1 x1 x2 x3), .int .i64 (Pt.tc less s 2 x1 x2 x3)] from hZ] at hR
      clear hZ hi
      have HR:=Lib.hid hR
      have e0:=hR.rt.cellx 0 _ rfl
      have e1:=hR.rt.cellx 1 _ rfl
      have e2:=hR.rt.cellx 2 _ rfl
      clear hR
      go_wp2_with fail
      refine (rof_any _ _ _ _).mono ?_
      rintro e w2 ⟨rfl,b2⟩
      have hR2:=HR.out.below b2
      have r0:=hR2.rr.cellx 0 _ rfl
      have s0:=hR2.rr.softx 0 _ rfl
      have r1:=hR2.rr.cellx 1 _ rfl
      have s1:=hR2.rr.softx 1 _ rfl
      have r2:=hR2.rr.cellx 2 _ rfl
      have s2:=hR2.rr.softx 2 _ rfl
      have HR2:=Lib.hid hR2
      clear hR2 b2
      go_wp2_with fail
      refine bodyPost_ret (results_cell_mid rfl _ _ _ (w.heap.size + 1) 0 [.int .i64 (Pt.tc less s 0 x1 x2 x3), .int .i64 (Pt.tc less s 1 x1 x2 x3), .int .i64 (Pt.tc less s 2 x1 x2 x3)] _ rfl (Row.over (D:=[.int .i64 (Pt.tc less s 0 x1 x2 x3), .int .i64 (Pt.tc less s 1 x1 x2 x3), .int .i64 (Pt.tc less s 2 x1 x2 x3)]) HR2.out.rr rfl).range Tryd.underlying23 rfl (by kernel_rfl)) rfl ?_
      exact ⟨rfl,below_setCells (by omega) [.int .i64 (Pt.tc less s 0 x1 x2 x3), .int .i64 (Pt.tc less s 1 x1 x2 x3), .int .i64 (Pt.tc less s 2 x1 x2 x3)] 0 _ _ HR2.out.bel⟩

def rfil3 (less : Int) (s : Nat) (x1 x2 x3 : Int) : Nat → List Value
  | 0=>[.int .i64 0, .int .i64 0, .int .i64 0]
  | 1=>[.int .i64 (Pt.tc less s 0 x1 x2 x3), .int .i64 0, .int .i64 0]
  | 2=>[.int .i64 (Pt.tc less s 0 x1 x2 x3), .int .i64 (Pt.tc less s 1 x1 x2 x3), .int .i64 0]
  | _=>[.int .i64 (Pt.tc less s 0 x1 x2 x3), .int .i64 (Pt.tc less s 1 x1 x2 x3), .int .i64 (Pt.tc less s 2 x1 x2 x3)]
set_option maxRecDepth 1000000 in
set_option maxHeartbeats 4000000 in
theorem rturned_o3 (s : Nat) (x1 x2 x3 less : Int) (w : World) (hs : s < 48) (hk : (s : Int) / 8 = 3) (h : (-2097152 ≤ x1 ∧ x1 ≤ 2097152) ∧ (-2097152 ≤ x2 ∧ x2 ≤ 2097152) ∧ (-2097152 ≤ x3 ∧ x3 ≤ 2097152)) (hl : 0 ≤ less ∧ less ≤ 1) :
    Calls Tryd.prog 68 #[.int .i64 (s : Int), .agg #[.int .i64 x1, .int .i64 x2, .int .i64 x3], .int .i64 less] w fun e w'=>e = .returned (.agg #[.int .i64 (Pt.tc less s 0 x1 x2 x3), .int .i64 (Pt.tc less s 1 x1 x2 x3), .int .i64 (Pt.tc less s 2 x1 x2 x3)]) ∧ Below w.heap.size w w':=by
  have CS : Hid (∀ W,Calls Tryd.prog 69 #[.int .i64 (s : Int)] W fun e w'=>e = .returned (.bool true) ∧ Below W.heap.size W w'):=Lib.hid (fun W=>by
    have:=is_any (s : Int) W
    rwa [decide_eq_true (show 0 ≤ (s : Int) ∧ (s : Int) < 48 by omega)] at this)
  have CN : Hid (∀ i : Nat,i < 3 → ∀ W,Calls Tryd.prog 97 #[.int .i64 (s : Int), .int .i64 (i : Int)] W fun e w'=>e = .returned (.bool (Pt.bit s i)) ∧ w' = W):=Lib.hid (fun i hi W=>rnegates_same s i W hs hi)
  have HK:=Lib.hid (show s / 8 = 3 by omega)
  have HKI:=Lib.hid hk
  obtain ⟨u,hu,r0,r1,g0⟩:=rows2 w [.int .i64 x1, .int .i64 x2, .int .i64 x3] 23 [.int .i64 0, .int .i64 0, .int .i64 0] 23
  have R0:=Lib.hid r0
  have R1:=Lib.hid r1
  have G0:=Lib.hid g0
  have HU:=Lib.hid hu
  clear hu g0 r0 r1
  go_enter Tryd.func68,Tryd.ntmps68
  go_upto_region 1 with fail
  rw [← HU.out]
  refine wpG_region ?_
  refine wpG_tk (some 13) (v:=.int .i64 (s : Int)) rfl (.val (by rfl) (fun _ _=>rfl)) ?_
  simp only [Act.put,List.setIfInBounds_toArray,List.set_cons_zero,List.set_cons_succ]
  refine wpG_tk (some 14) (v:=.bool true) rfl (.call (f:=69) (args:=#[.int .i64 (s : Int)]) (by rfl) (fun W=>by go_simp) (fun W hg=>CS.out W)) ?_
  simp only [Act.put,List.setIfInBounds_toArray,List.set_cons_zero,List.set_cons_succ]
  refine wpG_tk (some 7) (v:=.bool true) rfl (.val (by rfl) (fun _ _=>rfl)) ?_
  simp only [Act.put,List.setIfInBounds_toArray,List.set_cons_zero,List.set_cons_succ]
  refine wpG_done (fun V1 hv2=>?_)
  have GC3:=Lib.hid hv2
  clear hv2
  go_upto_region 2 with fail
  refine wpG_region ?_
  refine wpG_tk (some 15) (v:=.bool true) rfl (.val (by rfl) (fun _ _=>rfl)) ?_
  simp only [Act.put,List.setIfInBounds_toArray,List.set_cons_zero,List.set_cons_succ]
  refine wpG_tk (some 16) (v:=.bool false) rfl (.val (by rfl) (fun W hg=>by go_simp)) ?_
  simp only [Act.put,List.setIfInBounds_toArray,List.set_cons_zero,List.set_cons_succ]
  refine wpG_done (fun V4 hv5=>?_)
  have GC6:=Lib.hid (GC3.out.trans hv5)
  clear hv5
  go_upto_region 4 with fail
  refine wpG_region ?_
  refine wpG_tk (some 18) (v:=.agg #[.int .i64 x1, .int .i64 x2, .int .i64 x3]) rfl (.load_mid (by rfl) 23 (.tmp 4) rfl (w.heap.size) 0 rfl [.int .i64 x1, .int .i64 x2, .int .i64 x3] _ (fun W hg=>(R0.out.below (GC6.out.trans hg)).range) Tryd.underlying23 rfl (by kernel_rfl)) ?_
  simp only [Act.put,List.setIfInBounds_toArray,List.set_cons_zero,List.set_cons_succ]
  refine wpG_tk (some 19) (v:=.agg #[.int .i64 x1, .int .i64 x2, .int .i64 x3]) rfl (.call (f:=95) (args:=#[.agg #[.int .i64 x1, .int .i64 x2, .int .i64 x3]]) (by rfl) (fun W=>by go_simp) (fun W hg=>rlist_any x1 x2 x3 W)) ?_
  simp only [Act.put,List.setIfInBounds_toArray,List.set_cons_zero,List.set_cons_succ]
  refine wpG_val (some 8) rfl (by rfl) (fun W7 hg8=>⟨.pointer (some ⟨W7.heap.size,0,none⟩),W7.alloc (.cells #[.int .i64 0, .int .i64 0, .int .i64 0] 80),by (go_simp <;> rfl), ?_⟩)
  simp only [Act.put,List.setIfInBounds_toArray,List.set_cons_zero,List.set_cons_succ]
  refine wpG_store (none) rfl (by rfl) (fun W9 hg10=>⟨_,run_store_mid 80 (.tmp 8) (.tmp 19) rfl (W7.heap.size) 0 #[.int .i64 x1, .int .i64 x2, .int .i64 x3] rfl rfl (Row.room hg10 3 rfl) (by kernel_rfl) (by kernel_rfl), ?_⟩)
  simp only [Act.put]
  refine wpG_done (fun V11 hv12=>?_)
  have l14 : w.heap.size < W7.heap.size:=(R0.out.below (GC6.out.trans hg8)).lt
  have l15 : w.heap.size + 1 < W7.heap.size:=(R1.out.below (GC6.out.trans hg8)).lt
  have l16 : w.heap.size ≤ W7.heap.size:=(Gr.to G0.out (GC6.out.trans hg8)).size
  have R17:=Lib.hid ((R0.out.below (GC6.out.trans hg8)).past hg10 hv12)
  have R18:=Lib.hid ((R1.out.below (GC6.out.trans hg8)).past hg10 hv12)
  have R19:=Lib.hid (Row.made (zs:=[.int .i64 0, .int .i64 0, .int .i64 0]) (ds:=[.int .i64 x1, .int .i64 x2, .int .i64 x3]) rfl hg10 hv12)
  have G13:=Lib.hid (Gr.to (Gr.to G0.out (GC6.out.trans hg8)) (Gr.past hg10 hv12))
  clear hg10 hv12 
  go_upto_region 5 with fail
  refine wpG_region ?_
  refine wpG_tk (some 20) (v:=.int .i64 (s : Int)) rfl (.val (by rfl) (fun _ _=>rfl)) ?_
  simp only [Act.put,List.setIfInBounds_toArray,List.set_cons_zero,List.set_cons_succ]
  refine wpG_tk (some 21) (v:=.int .i64 3) rfl (.val (by rfl) (fun W hg=>by have q:=HKI.out;go_simp <;> rfl)) ?_
  simp only [Act.put,List.setIfInBounds_toArray,List.set_cons_zero,List.set_cons_succ]
  refine wpG_tk (some 22) (v:=.agg #[.int .i64 1, .int .i64 2, .int .i64 0]) rfl (.call (f:=96) (args:=#[.int .i64 3]) (by rfl) (fun W=>by go_simp) (fun W hg=>(by have c:=order_any 3 W (by decide);exact c))) ?_
  simp only [Act.put,List.setIfInBounds_toArray,List.set_cons_zero,List.set_cons_succ]
  refine wpG_val (some 9) rfl (by rfl) (fun W20 hg21=>⟨.pointer (some ⟨W20.heap.size,0,none⟩),W20.alloc (.cells #[.int .i64 0, .int .i64 0, .int .i64 0] 80),by (go_simp <;> rfl), ?_⟩)
  simp only [Act.put,List.setIfInBounds_toArray,List.set_cons_zero,List.set_cons_succ]
  refine wpG_store (none) rfl (by rfl) (fun W22 hg23=>⟨_,run_store_mid 80 (.tmp 9) (.tmp 22) rfl (W20.heap.size) 0 #[.int .i64 1, .int .i64 2, .int .i64 0] rfl rfl (Row.room hg23 3 rfl) (by kernel_rfl) (by kernel_rfl), ?_⟩)
  simp only [Act.put]
  refine wpG_done (fun V24 hv25=>?_)
  have l27 : w.heap.size < W20.heap.size:=(R17.out.below hg21).lt
  have l28 : w.heap.size + 1 < W20.heap.size:=(R18.out.below hg21).lt
  have l29 : W7.heap.size < W20.heap.size:=(R19.out.below hg21).lt
  have l30 : w.heap.size ≤ W20.heap.size:=(Gr.to G13.out hg21).size
  have R31:=Lib.hid ((R17.out.below hg21).past hg23 hv25)
  have R32:=Lib.hid ((R18.out.below hg21).past hg23 hv25)
  have R33:=Lib.hid ((R19.out.below hg21).past hg23 hv25)
  have R34:=Lib.hid (Row.made (zs:=[.int .i64 0, .int .i64 0, .int .i64 0]) (ds:=[.int .i64 1, .int .i64 2, .int .i64 0]) rfl hg23 hv25)
  have G26:=Lib.hid (Gr.to (Gr.to G13.out hg21) (Gr.past hg23 hv25))
  clear hg23 hv25 
  have TB:=Lib.hid (RR.begin (Z:=[.int .i64 0, .int .i64 0, .int .i64 0]) 80 R33.out R34.out R32.out (Row.lt R33.out) (Row.lt R34.out) (Row.lt R32.out) G26.out)
  clear HU
  go_wp2_with fail
  go_loopw [11] (fun c wr=>∃ i Z,c = .int .i64 ((i : Nat) : Int) ∧ i ≤ 3 ∧ Z = rfil3 less s x1 x2 x3 i ∧ RR (W7.heap.size) (W20.heap.size) V24.heap.size (w.heap.size + 1) [.int .i64 x1, .int .i64 x2, .int .i64 x3] [.int .i64 1, .int .i64 2, .int .i64 0] Z w wr) (fun c _=>3 - (intOf c).toNat)
  case atStart=>exact ⟨0,_,rfl,by omega,rfl,TB.out⟩
  case round =>
    obtain ⟨i,Z,rfl,hi,hZ,hR⟩:=hrel
    have hc : i = 0 ∨ i = 1 ∨ i = 2 ∨ i = 3:=by omega
    rcases hc with rfl | rfl | rfl | rfl
    · rw [show Z = [.int .i64 0, .int .i64 0, .int .i64 0] from hZ] at hR
      clear hZ hi
      have a0:=hR.rq.cellx 0 _ rfl
      have d1:=hR.rp.cellx 1 _ rfl
      have e0:=hR.rt.cellx 0 _ rfl
      have f0:=hR.rt.softx 0 _ rfl
      have N:=CN.out 0 (by decide)
      have N2 : ∀ W,Calls Tryd.prog 97 #[.int .i64 (s : Int), .int .i64 0] W fun e w'=>e = .returned (.bool (Pt.bit s 0)) ∧ w' = W:=N
      clear N
      have htc : Pt.tc less s 0 x1 x2 x3 = bif Pt.bit s 0 then -x2 - less else x2:=by unfold Pt.tc;rw [HK.out];rfl
      cases hb : Pt.bit s 0 with
      | false =>
        rw [hb] at htc N2
        have N3:=Lib.hid N2
        rw [show (bif false then -x2 - less else x2) = x2 from rfl] at htc
        have hR2:=hR.set 0 (.int .i64 x2) (by simp)
        have HR:=Lib.hid hR2
        have HTC:=Lib.hid htc
        clear htc hR2 hR N2 hb
        go_wp2_with fail
        refine (N3.out _).mono ?_
        rintro e w2 ⟨rfl,rfl⟩
        clear N3
        go_wp2_with fail
        first
          | exact ⟨⟨1,_,rfl,by omega,(by rw [show rfil3 less s x1 x2 x3 1 = [.int .i64 (Pt.tc less s 0 x1 x2 x3), .int .i64 0, .int .i64 0] from rfl,HTC.out];rfl),HR.out⟩,by simp [intOf]⟩
          | (go_roundw
             case rel=>exact ⟨1,_,rfl,by omega,(by rw [show rfil3 less s x1 x2 x3 1 = [.int .i64 (Pt.tc less s 0 x1 x2 x3), .int .i64 0, .int .i64 0] from rfl,HTC.out];rfl),HR.out⟩
             case measure=>simp [intOf])
      | true =>
        rw [hb] at htc N2
        have N3:=Lib.hid N2
        rw [show (bif true then -x2 - less else x2) = -x2 - less from rfl] at htc
        have hR2:=(hR.set 0 (.int .i64 x2) (by simp)).set 0 (.int .i64 (-x2 - less)) (by simp)
        have HR:=Lib.hid hR2
        have HTC:=Lib.hid htc
        clear htc hR2 hR N2 hb
        go_wp2_with fail
        refine (N3.out _).mono ?_
        rintro e w2 ⟨rfl,rfl⟩
        clear N3
        go_wp2_with fail
        first
          | exact ⟨⟨1,_,rfl,by omega,(by rw [show rfil3 less s x1 x2 x3 1 = [.int .i64 (Pt.tc less s 0 x1 x2 x3), .int .i64 0, .int .i64 0] from rfl,HTC.out];rfl),HR.out⟩,by simp [intOf]⟩
          | (go_roundw
             case rel=>exact ⟨1,_,rfl,by omega,(by rw [show rfil3 less s x1 x2 x3 1 = [.int .i64 (Pt.tc less s 0 x1 x2 x3), .int .i64 0, .int .i64 0] from rfl,HTC.out];rfl),HR.out⟩
             case measure=>simp [intOf])
    · rw [show Z = [.int .i64 (Pt.tc less s 0 x1 x2 x3), .int .i64 0, .int .i64 0] from hZ] at hR
      clear hZ hi
      have a1:=hR.rq.cellx 1 _ rfl
      have d2:=hR.rp.cellx 2 _ rfl
      have e1:=hR.rt.cellx 1 _ rfl
      have f1:=hR.rt.softx 1 _ rfl
      have N:=CN.out 1 (by decide)
      have N2 : ∀ W,Calls Tryd.prog 97 #[.int .i64 (s : Int), .int .i64 1] W fun e w'=>e = .returned (.bool (Pt.bit s 1)) ∧ w' = W:=N
      clear N
      have htc : Pt.tc less s 1 x1 x2 x3 = bif Pt.bit s 1 then -x3 - less else x3:=by unfold Pt.tc;rw [HK.out];rfl
      cases hb : Pt.bit s 1 with
      | false =>
        rw [hb] at htc N2
        have N3:=Lib.hid N2
        rw [show (bif false then -x3 - less else x3) = x3 from rfl] at htc
        have hR2:=hR.set 1 (.int .i64 x3) (by simp)
        have HR:=Lib.hid hR2
        have HTC:=Lib.hid htc
        clear htc hR2 hR N2 hb
        go_wp2_with fail
        refine (N3.out _).mono ?_
        rintro e w2 ⟨rfl,rfl⟩
        clear N3
        go_wp2_with fail
        first
          | exact ⟨⟨2,_,rfl,by omega,(by rw [show rfil3 less s x1 x2 x3 2 = [.int .i64 (Pt.tc less s 0 x1 x2 x3), .int .i64 (Pt.tc less s 1 x1 x2 x3), .int .i64 0] from rfl,HTC.out];rfl),HR.out⟩,by simp [intOf]⟩
          | (go_roundw
             case rel=>exact ⟨2,_,rfl,by omega,(by rw [show rfil3 less s x1 x2 x3 2 = [.int .i64 (Pt.tc less s 0 x1 x2 x3), .int .i64 (Pt.tc less s 1 x1 x2 x3), .int .i64 0] from rfl,HTC.out];rfl),HR.out⟩
             case measure=>simp [intOf])
      | true =>
        rw [hb] at htc N2
        have N3:=Lib.hid N2
        rw [show (bif true then -x3 - less else x3) = -x3 - less from rfl] at htc
        have hR2:=(hR.set 1 (.int .i64 x3) (by simp)).set 1 (.int .i64 (-x3 - less)) (by simp)
        have HR:=Lib.hid hR2
        have HTC:=Lib.hid htc
        clear htc hR2 hR N2 hb
        go_wp2_with fail
        refine (N3.out _).mono ?_
        rintro e w2 ⟨rfl,rfl⟩
        clear N3
        go_wp2_with fail
        first
          | exact ⟨⟨2,_,rfl,by omega,(by rw [show rfil3 less s x1 x2 x3 2 = [.int .i64 (Pt.tc less s 0 x1 x2 x3), .int .i64 (Pt.tc less s 1 x1 x2 x3), .int .i64 0] from rfl,HTC.out];rfl),HR.out⟩,by simp [intOf]⟩
          | (go_roundw
             case rel=>exact ⟨2,_,rfl,by omega,(by rw [show rfil3 less s x1 x2 x3 2 = [.int .i64 (Pt.tc less s 0 x1 x2 x3), .int .i64 (Pt.tc less s 1 x1 x2 x3), .int .i64 0] from rfl,HTC.out];rfl),HR.out⟩
             case measure=>simp [intOf])
    · rw [show Z = [.int .i64 (Pt.tc less s 0 x1 x2 x3), .int .i64 (Pt.tc less s 1 x1 x2 x3), .int .i64 0] from hZ] at hR
      clear hZ hi
      have a2:=hR.rq.cellx 2 _ rfl
      have d0:=hR.rp.cellx 0 _ rfl
      have e2:=hR.rt.cellx 2 _ rfl
      have f2:=hR.rt.softx 2 _ rfl
      have N:=CN.out 2 (by decide)
      have N2 : ∀ W,Calls Tryd.prog 97 #[.int .i64 (s : Int), .int .i64 2] W fun e w'=>e = .returned (.bool (Pt.bit s 2)) ∧ w' = W:=N
      clear N
      have htc : Pt.tc less s 2 x1 x2 x3 = bif Pt.bit s 2 then -x1 - less else x1:=by unfold Pt.tc;rw [HK.out];rfl
      cases hb : Pt.bit s 2 with
      | false =>
        rw [hb] at htc N2
        have N3:=Lib.hid N2
        rw [show (bif false then -x1 - less else x1) = x1 from rfl] at htc
        have hR2:=hR.set 2 (.int .i64 x1) (by simp)
        have HR:=Lib.hid hR2
        have HTC:=Lib.hid htc
        clear htc hR2 hR N2 hb
        go_wp2_with fail
        refine (N3.out _).mono ?_
        rintro e w2 ⟨rfl,rfl⟩
        clear N3
        go_wp2_with fail
        first
          | exact ⟨⟨3,_,rfl,by omega,(by rw [show rfil3 less s x1 x2 x3 3 = [.int .i64 (Pt.tc less s 0 x1 x2 x3), .int .i64 (Pt.tc less s 1 x1 x2 x3), .int .i64 (Pt.tc less s 2 x1 x2 x3)] from rfl,HTC.out];rfl),HR.out⟩,by simp [intOf]⟩
          | (go_roundw
             case rel=>exact ⟨3,_,rfl,by omega,(by rw [show rfil3 less s x1 x2 x3 3 = [.int .i64 (Pt.tc less s 0 x1 x2 x3), .int .i64 (Pt.tc less s 1 x1 x2 x3), .int .i64 (Pt.tc less s 2 x1 x2 x3)] from rfl,HTC.out];rfl),HR.out⟩
             case measure=>simp [intOf])
      | true =>
        rw [hb] at htc N2
        have N3:=Lib.hid N2
        rw [show (bif true then -x1 - less else x1) = -x1 - less from rfl] at htc
        have hR2:=(hR.set 2 (.int .i64 x1) (by simp)).set 2 (.int .i64 (-x1 - less)) (by simp)
        have HR:=Lib.hid hR2
        have HTC:=Lib.hid htc
        clear htc hR2 hR N2 hb
        go_wp2_with fail
        refine (N3.out _).mono ?_
        rintro e w2 ⟨rfl,rfl⟩
        clear N3
        go_wp2_with fail
        first
          | exact ⟨⟨3,_,rfl,by omega,(by rw [show rfil3 less s x1 x2 x3 3 = [.int .i64 (Pt.tc less s 0 x1 x2 x3), .int .i64 (Pt.tc less s 1 x1 x2 x3), .int .i64 (Pt.tc less s 2 x1 x2 x3)] from rfl,HTC.out];rfl),HR.out⟩,by simp [intOf]⟩
          | (go_roundw
             case rel=>exact ⟨3,_,rfl,by omega,(by rw [show rfil3 less s x1 x2 x3 3 = [.int .i64 (Pt.tc less s 0 x1 x2 x3), .int .i64 (Pt.tc less s 1 x1 x2 x3), .int .i64 (Pt.tc less s 2 x1 x2 x3)] from rfl,HTC.out];rfl),HR.out⟩
             case measure=>simp [intOf])
    · rw [show Z = [.int .i64 (Pt.tc less s 0 x1 x2 x3), .int .i64 (Pt.tc less s 1 x1 x2 x3), .int .i64 (Pt.tc less s 2 x1 x2 x3)] from hZ] at hR
      clear hZ hi
      have HR:=Lib.hid hR
      have e0:=hR.rt.cellx 0 _ rfl
      have e1:=hR.rt.cellx 1 _ rfl
      have e2:=hR.rt.cellx 2 _ rfl
      clear hR
      go_wp2_with fail
      refine (rof_any _ _ _ _).mono ?_
      rintro e w2 ⟨rfl,b2⟩
      have hR2:=HR.out.below b2
      have r0:=hR2.rr.cellx 0 _ rfl
      have s0:=hR2.rr.softx 0 _ rfl
      have r1:=hR2.rr.cellx 1 _ rfl
      have s1:=hR2.rr.softx 1 _ rfl
      have r2:=hR2.rr.cellx 2 _ rfl
      have s2:=hR2.rr.softx 2 _ rfl
      have HR2:=Lib.hid hR2
      clear hR2 b2
      go_wp2_with fail
      refine bodyPost_ret (results_cell_mid rfl _ _ _ (w.heap.size + 1) 0 [.int .i64 (Pt.tc less s 0 x1 x2 x3), .int .i64 (Pt.tc less s 1 x1 x2 x3), .int .i64 (Pt.tc less s 2 x1 x2 x3)] _ rfl (Row.over (D:=[.int .i64 (Pt.tc less s 0 x1 x2 x3), .int .i64 (Pt.tc less s 1 x1 x2 x3), .int .i64 (Pt.tc less s 2 x1 x2 x3)]) HR2.out.rr rfl).range Tryd.underlying23 rfl (by kernel_rfl)) rfl ?_
      exact ⟨rfl,below_setCells (by omega) [.int .i64 (Pt.tc less s 0 x1 x2 x3), .int .i64 (Pt.tc less s 1 x1 x2 x3), .int .i64 (Pt.tc less s 2 x1 x2 x3)] 0 _ _ HR2.out.bel⟩

def rfil4 (less : Int) (s : Nat) (x1 x2 x3 : Int) : Nat → List Value
  | 0=>[.int .i64 0, .int .i64 0, .int .i64 0]
  | 1=>[.int .i64 (Pt.tc less s 0 x1 x2 x3), .int .i64 0, .int .i64 0]
  | 2=>[.int .i64 (Pt.tc less s 0 x1 x2 x3), .int .i64 (Pt.tc less s 1 x1 x2 x3), .int .i64 0]
  | _=>[.int .i64 (Pt.tc less s 0 x1 x2 x3), .int .i64 (Pt.tc less s 1 x1 x2 x3), .int .i64 (Pt.tc less s 2 x1 x2 x3)]
set_option maxRecDepth 1000000 in
set_option maxHeartbeats 4000000 in
theorem rturned_o4 (s : Nat) (x1 x2 x3 less : Int) (w : World) (hs : s < 48) (hk : (s : Int) / 8 = 4) (h : (-2097152 ≤ x1 ∧ x1 ≤ 2097152) ∧ (-2097152 ≤ x2 ∧ x2 ≤ 2097152) ∧ (-2097152 ≤ x3 ∧ x3 ≤ 2097152)) (hl : 0 ≤ less ∧ less ≤ 1) :
    Calls Tryd.prog 68 #[.int .i64 (s : Int), .agg #[.int .i64 x1, .int .i64 x2, .int .i64 x3], .int .i64 less] w fun e w'=>e = .returned (.agg #[.int .i64 (Pt.tc less s 0 x1 x2 x3), .int .i64 (Pt.tc less s 1 x1 x2 x3), .int .i64 (Pt.tc less s 2 x1 x2 x3)]) ∧ Below w.heap.size w w':=by
  have CS : Hid (∀ W,Calls Tryd.prog 69 #[.int .i64 (s : Int)] W fun e w'=>e = .returned (.bool true) ∧ Below W.heap.size W w'):=Lib.hid (fun W=>by
    have:=is_any (s : Int) W
    rwa [decide_eq_true (show 0 ≤ (s : Int) ∧ (s : Int) < 48 by omega)] at this)
  have CN : Hid (∀ i : Nat,i < 3 → ∀ W,Calls Tryd.prog 97 #[.int .i64 (s : Int), .int .i64 (i : Int)] W fun e w'=>e = .returned (.bool (Pt.bit s i)) ∧ w' = W):=Lib.hid (fun i hi W=>rnegates_same s i W hs hi)
  have HK:=Lib.hid (show s / 8 = 4 by omega)
  have HKI:=Lib.hid hk
  obtain ⟨u,hu,r0,r1,g0⟩:=rows2 w [.int .i64 x1, .int .i64 x2, .int .i64 x3] 23 [.int .i64 0, .int .i64 0, .int .i64 0] 23
  have R0:=Lib.hid r0
  have R1:=Lib.hid r1
  have G0:=Lib.hid g0
  have HU:=Lib.hid hu
  clear hu g0 r0 r1
  go_enter Tryd.func68,Tryd.ntmps68
  go_upto_region 1 with fail
  rw [← HU.out]
  refine wpG_region ?_
  refine wpG_tk (some 13) (v:=.int .i64 (s : Int)) rfl (.val (by rfl) (fun _ _=>rfl)) ?_
  simp only [Act.put,List.setIfInBounds_toArray,List.set_cons_zero,List.set_cons_succ]
  refine wpG_tk (some 14) (v:=.bool true) rfl (.call (f:=69) (args:=#[.int .i64 (s : Int)]) (by rfl) (fun W=>by go_simp) (fun W hg=>CS.out W)) ?_
  simp only [Act.put,List.setIfInBounds_toArray,List.set_cons_zero,List.set_cons_succ]
  refine wpG_tk (some 7) (v:=.bool true) rfl (.val (by rfl) (fun _ _=>rfl)) ?_
  simp only [Act.put,List.setIfInBounds_toArray,List.set_cons_zero,List.set_cons_succ]
  refine wpG_done (fun V1 hv2=>?_)
  have GC3:=Lib.hid hv2
  clear hv2
  go_upto_region 2 with fail
  refine wpG_region ?_
  refine wpG_tk (some 15) (v:=.bool true) rfl (.val (by rfl) (fun _ _=>rfl)) ?_
  simp only [Act.put,List.setIfInBounds_toArray,List.set_cons_zero,List.set_cons_succ]
  refine wpG_tk (some 16) (v:=.bool false) rfl (.val (by rfl) (fun W hg=>by go_simp)) ?_
  simp only [Act.put,List.setIfInBounds_toArray,List.set_cons_zero,List.set_cons_succ]
  refine wpG_done (fun V4 hv5=>?_)
  have GC6:=Lib.hid (GC3.out.trans hv5)
  clear hv5
  go_upto_region 4 with fail
  refine wpG_region ?_
  refine wpG_tk (some 18) (v:=.agg #[.int .i64 x1, .int .i64 x2, .int .i64 x3]) rfl (.load_mid (by rfl) 23 (.tmp 4) rfl (w.heap.size) 0 rfl [.int .i64 x1, .int .i64 x2, .int .i64 x3] _ (fun W hg=>(R0.out.below (GC6.out.trans hg)).range) Tryd.underlying23 rfl (by kernel_rfl)) ?_
  simp only [Act.put,List.setIfInBounds_toArray,List.set_cons_zero,List.set_cons_succ]
  refine wpG_tk (some 19) (v:=.agg #[.int .i64 x1, .int .i64 x2, .int .i64 x3]) rfl (.call (f:=95) (args:=#[.agg #[.int .i64 x1, .int .i64 x2, .int .i64 x3]]) (by rfl) (fun W=>by go_simp) (fun W hg=>rlist_any x1 x2 x3 W)) ?_
  simp only [Act.put,List.setIfInBounds_toArray,List.set_cons_zero,List.set_cons_succ]
  refine wpG_val (some 8) rfl (by rfl) (fun W7 hg8=>⟨.pointer (some ⟨W7.heap.size,0,none⟩),W7.alloc (.cells #[.int .i64 0, .int .i64 0, .int .i64 0] 80),by (go_simp <;> rfl), ?_⟩)
  simp only [Act.put,List.setIfInBounds_toArray,List.set_cons_zero,List.set_cons_succ]
  refine wpG_store (none) rfl (by rfl) (fun W9 hg10=>⟨_,run_store_mid 80 (.tmp 8) (.tmp 19) rfl (W7.heap.size) 0 #[.int .i64 x1, .int .i64 x2, .int .i64 x3] rfl rfl (Row.room hg10 3 rfl) (by kernel_rfl) (by kernel_rfl), ?_⟩)
  simp only [Act.put]
  refine wpG_done (fun V11 hv12=>?_)
  have l14 : w.heap.size < W7.heap.size:=(R0.out.below (GC6.out.trans hg8)).lt
  have l15 : w.heap.size + 1 < W7.heap.size:=(R1.out.below (GC6.out.trans hg8)).lt
  have l16 : w.heap.size ≤ W7.heap.size:=(Gr.to G0.out (GC6.out.trans hg8)).size
  have R17:=Lib.hid ((R0.out.below (GC6.out.trans hg8)).past hg10 hv12)
  have R18:=Lib.hid ((R1.out.below (GC6.out.trans hg8)).past hg10 hv12)
  have R19:=Lib.hid (Row.made (zs:=[.int .i64 0, .int .i64 0, .int .i64 0]) (ds:=[.int .i64 x1, .int .i64 x2, .int .i64 x3]) rfl hg10 hv12)
  have G13:=Lib.hid (Gr.to (Gr.to G0.out (GC6.out.trans hg8)) (Gr.past hg10 hv12))
  clear hg10 hv12 
  go_upto_region 5 with fail
  refine wpG_region ?_
  refine wpG_tk (some 20) (v:=.int .i64 (s : Int)) rfl (.val (by rfl) (fun _ _=>rfl)) ?_
  simp only [Act.put,List.setIfInBounds_toArray,List.set_cons_zero,List.set_cons_succ]
  refine wpG_tk (some 21) (v:=.int .i64 4) rfl (.val (by rfl) (fun W hg=>by have q:=HKI.out;go_simp <;> rfl)) ?_
  simp only [Act.put,List.setIfInBounds_toArray,List.set_cons_zero,List.set_cons_succ]
  refine wpG_tk (some 22) (v:=.agg #[.int .i64 2, .int .i64 0, .int .i64 1]) rfl (.call (f:=96) (args:=#[.int .i64 4]) (by rfl) (fun W=>by go_simp) (fun W hg=>(by have c:=order_any 4 W (by decide);exact c))) ?_
  simp only [Act.put,List.setIfInBounds_toArray,List.set_cons_zero,List.set_cons_succ]
  refine wpG_val (some 9) rfl (by rfl) (fun W20 hg21=>⟨.pointer (some ⟨W20.heap.size,0,none⟩),W20.alloc (.cells #[.int .i64 0, .int .i64 0, .int .i64 0] 80),by (go_simp <;> rfl), ?_⟩)
  simp only [Act.put,List.setIfInBounds_toArray,List.set_cons_zero,List.set_cons_succ]
  refine wpG_store (none) rfl (by rfl) (fun W22 hg23=>⟨_,run_store_mid 80 (.tmp 9) (.tmp 22) rfl (W20.heap.size) 0 #[.int .i64 2, .int .i64 0, .int .i64 1] rfl rfl (Row.room hg23 3 rfl) (by kernel_rfl) (by kernel_rfl), ?_⟩)
  simp only [Act.put]
  refine wpG_done (fun V24 hv25=>?_)
  have l27 : w.heap.size < W20.heap.size:=(R17.out.below hg21).lt
  have l28 : w.heap.size + 1 < W20.heap.size:=(R18.out.below hg21).lt
  have l29 : W7.heap.size < W20.heap.size:=(R19.out.below hg21).lt
  have l30 : w.heap.size ≤ W20.heap.size:=(Gr.to G13.out hg21).size
  have R31:=Lib.hid ((R17.out.below hg21).past hg23 hv25)
  have R32:=Lib.hid ((R18.out.below hg21).past hg23 hv25)
  have R33:=Lib.hid ((R19.out.below hg21).past hg23 hv25)
  have R34:=Lib.hid (Row.made (zs:=[.int .i64 0, .int .i64 0, .int .i64 0]) (ds:=[.int .i64 2, .int .i64 0, .int .i64 1]) rfl hg23 hv25)
  have G26:=Lib.hid (Gr.to (Gr.to G13.out hg21) (Gr.past hg23 hv25))
  clear hg23 hv25 
  have TB:=Lib.hid (RR.begin (Z:=[.int .i64 0, .int .i64 0, .int .i64 0]) 80 R33.out R34.out R32.out (Row.lt R33.out) (Row.lt R34.out) (Row.lt R32.out) G26.out)
  clear HU
  go_wp2_with fail
  go_loopw [11] (fun c wr=>∃ i Z,c = .int .i64 ((i : Nat) : Int) ∧ i ≤ 3 ∧ Z = rfil4 less s x1 x2 x3 i ∧ RR (W7.heap.size) (W20.heap.size) V24.heap.size (w.heap.size + 1) [.int .i64 x1, .int .i64 x2, .int .i64 x3] [.int .i64 2, .int .i64 0, .int .i64 1] Z w wr) (fun c _=>3 - (intOf c).toNat)
  case atStart=>exact ⟨0,_,rfl,by omega,rfl,TB.out⟩
  case round =>
    obtain ⟨i,Z,rfl,hi,hZ,hR⟩:=hrel
    have hc : i = 0 ∨ i = 1 ∨ i = 2 ∨ i = 3:=by omega
    rcases hc with rfl | rfl | rfl | rfl
    · rw [show Z = [.int .i64 0, .int .i64 0, .int .i64 0] from hZ] at hR
      clear hZ hi
      have a0:=hR.rq.cellx 0 _ rfl
      have d2:=hR.rp.cellx 2 _ rfl
      have e0:=hR.rt.cellx 0 _ rfl
      have f0:=hR.rt.softx 0 _ rfl
      have N:=CN.out 0 (by decide)
      have N2 : ∀ W,Calls Tryd.prog 97 #[.int .i64 (s : Int), .int .i64 0] W fun e w'=>e = .returned (.bool (Pt.bit s 0)) ∧ w' = W:=N
      clear N
      have htc : Pt.tc less s 0 x1 x2 x3 = bif Pt.bit s 0 then -x3 - less else x3:=by unfold Pt.tc;rw [HK.out];rfl
      cases hb : Pt.bit s 0 with
      | false =>
        rw [hb] at htc N2
        have N3:=Lib.hid N2
        rw [show (bif false then -x3 - less else x3) = x3 from rfl] at htc
        have hR2:=hR.set 0 (.int .i64 x3) (by simp)
        have HR:=Lib.hid hR2
        have HTC:=Lib.hid htc
        clear htc hR2 hR N2 hb
        go_wp2_with fail
        refine (N3.out _).mono ?_
        rintro e w2 ⟨rfl,rfl⟩
        clear N3
        go_wp2_with fail
        first
          | exact ⟨⟨1,_,rfl,by omega,(by rw [show rfil4 less s x1 x2 x3 1 = [.int .i64 (Pt.tc less s 0 x1 x2 x3), .int .i64 0, .int .i64 0] from rfl,HTC.out];rfl),HR.out⟩,by simp [intOf]⟩
          | (go_roundw
             case rel=>exact ⟨1,_,rfl,by omega,(by rw [show rfil4 less s x1 x2 x3 1 = [.int .i64 (Pt.tc less s 0 x1 x2 x3), .int .i64 0, .int .i64 0] from rfl,HTC.out];rfl),HR.out⟩
             case measure=>simp [intOf])
      | true =>
        rw [hb] at htc N2
        have N3:=Lib.hid N2
        rw [show (bif true then -x3 - less else x3) = -x3 - less from rfl] at htc
        have hR2:=(hR.set 0 (.int .i64 x3) (by simp)).set 0 (.int .i64 (-x3 - less)) (by simp)
        have HR:=Lib.hid hR2
        have HTC:=Lib.hid htc
        clear htc hR2 hR N2 hb
        go_wp2_with fail
        refine (N3.out _).mono ?_
        rintro e w2 ⟨rfl,rfl⟩
        clear N3
        go_wp2_with fail
        first
          | exact ⟨⟨1,_,rfl,by omega,(by rw [show rfil4 less s x1 x2 x3 1 = [.int .i64 (Pt.tc less s 0 x1 x2 x3), .int .i64 0, .int .i64 0] from rfl,HTC.out];rfl),HR.out⟩,by simp [intOf]⟩
          | (go_roundw
             case rel=>exact ⟨1,_,rfl,by omega,(by rw [show rfil4 less s x1 x2 x3 1 = [.int .i64 (Pt.tc less s 0 x1 x2 x3), .int .i64 0, .int .i64 0] from rfl,HTC.out];rfl),HR.out⟩
             case measure=>simp [intOf])
    · rw [show Z = [.int .i64 (Pt.tc less s 0 x1 x2 x3), .int .i64 0, .int .i64 0] from hZ] at hR
      clear hZ hi
      have a1:=hR.rq.cellx 1 _ rfl
      have d0:=hR.rp.cellx 0 _ rfl
      have e1:=hR.rt.cellx 1 _ rfl
      have f1:=hR.rt.softx 1 _ rfl
      have N:=CN.out 1 (by decide)
      have N2 : ∀ W,Calls Tryd.prog 97 #[.int .i64 (s : Int), .int .i64 1] W fun e w'=>e = .returned (.bool (Pt.bit s 1)) ∧ w' = W:=N
      clear N
      have htc : Pt.tc less s 1 x1 x2 x3 = bif Pt.bit s 1 then -x1 - less else x1:=by unfold Pt.tc;rw [HK.out];rfl
      cases hb : Pt.bit s 1 with
      | false =>
        rw [hb] at htc N2
        have N3:=Lib.hid N2
        rw [show (bif false then -x1 - less else x1) = x1 from rfl] at htc
        have hR2:=hR.set 1 (.int .i64 x1) (by simp)
        have HR:=Lib.hid hR2
        have HTC:=Lib.hid htc
        clear htc hR2 hR N2 hb
        go_wp2_with fail
        refine (N3.out _).mono ?_
        rintro e w2 ⟨rfl,rfl⟩
        clear N3
        go_wp2_with fail
        first
          | exact ⟨⟨2,_,rfl,by omega,(by rw [show rfil4 less s x1 x2 x3 2 = [.int .i64 (Pt.tc less s 0 x1 x2 x3), .int .i64 (Pt.tc less s 1 x1 x2 x3), .int .i64 0] from rfl,HTC.out];rfl),HR.out⟩,by simp [intOf]⟩
          | (go_roundw
             case rel=>exact ⟨2,_,rfl,by omega,(by rw [show rfil4 less s x1 x2 x3 2 = [.int .i64 (Pt.tc less s 0 x1 x2 x3), .int .i64 (Pt.tc less s 1 x1 x2 x3), .int .i64 0] from rfl,HTC.out];rfl),HR.out⟩
             case measure=>simp [intOf])
      | true =>
        rw [hb] at htc N2
        have N3:=Lib.hid N2
        rw [show (bif true then -x1 - less else x1) = -x1 - less from rfl] at htc
        have hR2:=(hR.set 1 (.int .i64 x1) (by simp)).set 1 (.int .i64 (-x1 - less)) (by simp)
        have HR:=Lib.hid hR2
        have HTC:=Lib.hid htc
        clear htc hR2 hR N2 hb
        go_wp2_with fail
        refine (N3.out _).mono ?_
        rintro e w2 ⟨rfl,rfl⟩
        clear N3
        go_wp2_with fail
        first
          | exact ⟨⟨2,_,rfl,by omega,(by rw [show rfil4 less s x1 x2 x3 2 = [.int .i64 (Pt.tc less s 0 x1 x2 x3), .int .i64 (Pt.tc less s 1 x1 x2 x3), .int .i64 0] from rfl,HTC.out];rfl),HR.out⟩,by simp [intOf]⟩
          | (go_roundw
             case rel=>exact ⟨2,_,rfl,by omega,(by rw [show rfil4 less s x1 x2 x3 2 = [.int .i64 (Pt.tc less s 0 x1 x2 x3), .int .i64 (Pt.tc less s 1 x1 x2 x3), .int .i64 0] from rfl,HTC.out];rfl),HR.out⟩
             case measure=>simp [intOf])
    · rw [show Z = [.int .i64 (Pt.tc less s 0 x1 x2 x3), .int .i64 (Pt.tc less s 1 x1 x2 x3), .int .i64 0] from hZ] at hR
      clear hZ hi
      have a2:=hR.rq.cellx 2 _ rfl
      have d1:=hR.rp.cellx 1 _ rfl
      have e2:=hR.rt.cellx 2 _ rfl
      have f2:=hR.rt.softx 2 _ rfl
      have N:=CN.out 2 (by decide)
      have N2 : ∀ W,Calls Tryd.prog 97 #[.int .i64 (s : Int), .int .i64 2] W fun e w'=>e = .returned (.bool (Pt.bit s 2)) ∧ w' = W:=N
      clear N
      have htc : Pt.tc less s 2 x1 x2 x3 = bif Pt.bit s 2 then -x2 - less else x2:=by unfold Pt.tc;rw [HK.out];rfl
      cases hb : Pt.bit s 2 with
      | false =>
        rw [hb] at htc N2
        have N3:=Lib.hid N2
        rw [show (bif false then -x2 - less else x2) = x2 from rfl] at htc
        have hR2:=hR.set 2 (.int .i64 x2) (by simp)
        have HR:=Lib.hid hR2
        have HTC:=Lib.hid htc
        clear htc hR2 hR N2 hb
        go_wp2_with fail
        refine (N3.out _).mono ?_
        rintro e w2 ⟨rfl,rfl⟩
        clear N3
        go_wp2_with fail
        first
          | exact ⟨⟨3,_,rfl,by omega,(by rw [show rfil4 less s x1 x2 x3 3 = [.int .i64 (Pt.tc less s 0 x1 x2 x3), .int .i64 (Pt.tc less s 1 x1 x2 x3), .int .i64 (Pt.tc less s 2 x1 x2 x3)] from rfl,HTC.out];rfl),HR.out⟩,by simp [intOf]⟩
          | (go_roundw
             case rel=>exact ⟨3,_,rfl,by omega,(by rw [show rfil4 less s x1 x2 x3 3 = [.int .i64 (Pt.tc less s 0 x1 x2 x3), .int .i64 (Pt.tc less s 1 x1 x2 x3), .int .i64 (Pt.tc less s 2 x1 x2 x3)] from rfl,HTC.out];rfl),HR.out⟩
             case measure=>simp [intOf])
      | true =>
        rw [hb] at htc N2
        have N3:=Lib.hid N2
        rw [show (bif true then -x2 - less else x2) = -x2 - less from rfl] at htc
        have hR2:=(hR.set 2 (.int .i64 x2) (by simp)).set 2 (.int .i64 (-x2 - less)) (by simp)
        have HR:=Lib.hid hR2
        have HTC:=Lib.hid htc
        clear htc hR2 hR N2 hb
        go_wp2_with fail
        refine (N3.out _).mono ?_
        rintro e w2 ⟨rfl,rfl⟩
        clear N3
        go_wp2_with fail
        first
          | exact ⟨⟨3,_,rfl,by omega,(by rw [show rfil4 less s x1 x2 x3 3 = [.int .i64 (Pt.tc less s 0 x1 x2 x3), .int .i64 (Pt.tc less s 1 x1 x2 x3), .int .i64 (Pt.tc less s 2 x1 x2 x3)] from rfl,HTC.out];rfl),HR.out⟩,by simp [intOf]⟩
          | (go_roundw
             case rel=>exact ⟨3,_,rfl,by omega,(by rw [show rfil4 less s x1 x2 x3 3 = [.int .i64 (Pt.tc less s 0 x1 x2 x3), .int .i64 (Pt.tc less s 1 x1 x2 x3), .int .i64 (Pt.tc less s 2 x1 x2 x3)] from rfl,HTC.out];rfl),HR.out⟩
             case measure=>simp [intOf])
    · rw [show Z = [.int .i64 (Pt.tc less s 0 x1 x2 x3), .int .i64 (Pt.tc less s 1 x1 x2 x3), .int .i64 (Pt.tc less s 2 x1 x2 x3)] from hZ] at hR
      clear hZ hi
      have HR:=Lib.hid hR
      have e0:=hR.rt.cellx 0 _ rfl
      have e1:=hR.rt.cellx 1 _ rfl
      have e2:=hR.rt.cellx 2 _ rfl
      clear hR
      go_wp2_with fail
      refine (rof_any _ _ _ _).mono ?_
      rintro e w2 ⟨rfl,b2⟩
      have hR2:=HR.out.below b2
      have r0:=hR2.rr.cellx 0 _ rfl
      have s0:=hR2.rr.softx 0 _ rfl
      have r1:=hR2.rr.cellx 1 _ rfl
      have s1:=hR2.rr.softx 1 _ rfl
      have r2:=hR2.rr.cellx 2 _ rfl
      have s2:=hR2.rr.softx 2 _ rfl
      have HR2:=Lib.hid hR2
      clear hR2 b2
      go_wp2_with fail
      refine bodyPost_ret (results_cell_mid rfl _ _ _ (w.heap.size + 1) 0 [.int .i64 (Pt.tc less s 0 x1 x2 x3), .int .i64 (Pt.tc less s 1 x1 x2 x3), .int .i64 (Pt.tc less s 2 x1 x2 x3)] _ rfl (Row.over (D:=[.int .i64 (Pt.tc less s 0 x1 x2 x3), .int .i64 (Pt.tc less s 1 x1 x2 x3), .int .i64 (Pt.tc less s 2 x1 x2 x3)]) HR2.out.rr rfl).range Tryd.underlying23 rfl (by kernel_rfl)) rfl ?_
      exact ⟨rfl,below_setCells (by omega) [.int .i64 (Pt.tc less s 0 x1 x2 x3), .int .i64 (Pt.tc less s 1 x1 x2 x3), .int .i64 (Pt.tc less s 2 x1 x2 x3)] 0 _ _ HR2.out.bel⟩

def rfil5 (less : Int) (s : Nat) (x1 x2 x3 : Int) : Nat → List Value
  | 0=>[.int .i64 0, .int .i64 0, .int .i64 0]
  | 1=>[.int .i64 (Pt.tc less s 0 x1 x2 x3), .int .i64 0, .int .i64 0]
  | 2=>[.int .i64 (Pt.tc less s 0 x1 x2 x3), .int .i64 (Pt.tc less s 1 x1 x2 x3), .int .i64 0]
  | _=>[.int .i64 (Pt.tc less s 0 x1 x2 x3), .int .i64 (Pt.tc less s 1 x1 x2 x3), .int .i64 (Pt.tc less s 2 x1 x2 x3)]
set_option maxRecDepth 1000000 in
set_option maxHeartbeats 4000000 in
theorem rturned_o5 (s : Nat) (x1 x2 x3 less : Int) (w : World) (hs : s < 48) (hk : (s : Int) / 8 = 5) (h : (-2097152 ≤ x1 ∧ x1 ≤ 2097152) ∧ (-2097152 ≤ x2 ∧ x2 ≤ 2097152) ∧ (-2097152 ≤ x3 ∧ x3 ≤ 2097152)) (hl : 0 ≤ less ∧ less ≤ 1) :
    Calls Tryd.prog 68 #[.int .i64 (s : Int), .agg #[.int .i64 x1, .int .i64 x2, .int .i64 x3], .int .i64 less] w fun e w'=>e = .returned (.agg #[.int .i64 (Pt.tc less s 0 x1 x2 x3), .int .i64 (Pt.tc less s 1 x1 x2 x3), .int .i64 (Pt.tc less s 2 x1 x2 x3)]) ∧ Below w.heap.size w w':=by
  have CS : Hid (∀ W,Calls Tryd.prog 69 #[.int .i64 (s : Int)] W fun e w'=>e = .returned (.bool true) ∧ Below W.heap.size W w'):=Lib.hid (fun W=>by
    have:=is_any (s : Int) W
    rwa [decide_eq_true (show 0 ≤ (s : Int) ∧ (s : Int) < 48 by omega)] at this)
  have CN : Hid (∀ i : Nat,i < 3 → ∀ W,Calls Tryd.prog 97 #[.int .i64 (s : Int), .int .i64 (i : Int)] W fun e w'=>e = .returned (.bool (Pt.bit s i)) ∧ w' = W):=Lib.hid (fun i hi W=>rnegates_same s i W hs hi)
  have HK:=Lib.hid (show s / 8 = 5 by omega)
  have HKI:=Lib.hid hk
  obtain ⟨u,hu,r0,r1,g0⟩:=rows2 w [.int .i64 x1, .int .i64 x2, .int .i64 x3] 23 [.int .i64 0, .int .i64 0, .int .i64 0] 23
  have R0:=Lib.hid r0
  have R1:=Lib.hid r1
  have G0:=Lib.hid g0
  have HU:=Lib.hid hu
  clear hu g0 r0 r1
  go_enter Tryd.func68,Tryd.ntmps68
  go_upto_region 1 with fail
  rw [← HU.out]
  refine wpG_region ?_
  refine wpG_tk (some 13) (v:=.int .i64 (s : Int)) rfl (.val (by rfl) (fun _ _=>rfl)) ?_
  simp only [Act.put,List.setIfInBounds_toArray,List.set_cons_zero,List.set_cons_succ]
  refine wpG_tk (some 14) (v:=.bool true) rfl (.call (f:=69) (args:=#[.int .i64 (s : Int)]) (by rfl) (fun W=>by go_simp) (fun W hg=>CS.out W)) ?_
  simp only [Act.put,List.setIfInBounds_toArray,List.set_cons_zero,List.set_cons_succ]
  refine wpG_tk (some 7) (v:=.bool true) rfl (.val (by rfl) (fun _ _=>rfl)) ?_
  simp only [Act.put,List.setIfInBounds_toArray,List.set_cons_zero,List.set_cons_succ]
  refine wpG_done (fun V1 hv2=>?_)
  have GC3:=Lib.hid hv2
  clear hv2
  go_upto_region 2 with fail
  refine wpG_region ?_
  refine wpG_tk (some 15) (v:=.bool true) rfl (.val (by rfl) (fun _ _=>rfl)) ?_
  simp only [Act.put,List.setIfInBounds_toArray,List.set_cons_zero,List.set_cons_succ]
  refine wpG_tk (some 16) (v:=.bool false) rfl (.val (by rfl) (fun W hg=>by go_simp)) ?_
  simp only [Act.put,List.setIfInBounds_toArray,List.set_cons_zero,List.set_cons_succ]
  refine wpG_done (fun V4 hv5=>?_)
  have GC6:=Lib.hid (GC3.out.trans hv5)
  clear hv5
  go_upto_region 4 with fail
  refine wpG_region ?_
  refine wpG_tk (some 18) (v:=.agg #[.int .i64 x1, .int .i64 x2, .int .i64 x3]) rfl (.load_mid (by rfl) 23 (.tmp 4) rfl (w.heap.size) 0 rfl [.int .i64 x1, .int .i64 x2, .int .i64 x3] _ (fun W hg=>(R0.out.below (GC6.out.trans hg)).range) Tryd.underlying23 rfl (by kernel_rfl)) ?_
  simp only [Act.put,List.setIfInBounds_toArray,List.set_cons_zero,List.set_cons_succ]
  refine wpG_tk (some 19) (v:=.agg #[.int .i64 x1, .int .i64 x2, .int .i64 x3]) rfl (.call (f:=95) (args:=#[.agg #[.int .i64 x1, .int .i64 x2, .int .i64 x3]]) (by rfl) (fun W=>by go_simp) (fun W hg=>rlist_any x1 x2 x3 W)) ?_
  simp only [Act.put,List.setIfInBounds_toArray,List.set_cons_zero,List.set_cons_succ]
  refine wpG_val (some 8) rfl (by rfl) (fun W7 hg8=>⟨.pointer (some ⟨W7.heap.size,0,none⟩),W7.alloc (.cells #[.int .i64 0, .int .i64 0, .int .i64 0] 80),by (go_simp <;> rfl), ?_⟩)
  simp only [Act.put,List.setIfInBounds_toArray,List.set_cons_zero,List.set_cons_succ]
  refine wpG_store (none) rfl (by rfl) (fun W9 hg10=>⟨_,run_store_mid 80 (.tmp 8) (.tmp 19) rfl (W7.heap.size) 0 #[.int .i64 x1, .int .i64 x2, .int .i64 x3] rfl rfl (Row.room hg10 3 rfl) (by kernel_rfl) (by kernel_rfl), ?_⟩)
  simp only [Act.put]
  refine wpG_done (fun V11 hv12=>?_)
  have l14 : w.heap.size < W7.heap.size:=(R0.out.below (GC6.out.trans hg8)).lt
  have l15 : w.heap.size + 1 < W7.heap.size:=(R1.out.below (GC6.out.trans hg8)).lt
  have l16 : w.heap.size ≤ W7.heap.size:=(Gr.to G0.out (GC6.out.trans hg8)).size
  have R17:=Lib.hid ((R0.out.below (GC6.out.trans hg8)).past hg10 hv12)
  have R18:=Lib.hid ((R1.out.below (GC6.out.trans hg8)).past hg10 hv12)
  have R19:=Lib.hid (Row.made (zs:=[.int .i64 0, .int .i64 0, .int .i64 0]) (ds:=[.int .i64 x1, .int .i64 x2, .int .i64 x3]) rfl hg10 hv12)
  have G13:=Lib.hid (Gr.to (Gr.to G0.out (GC6.out.trans hg8)) (Gr.past hg10 hv12))
  clear hg10 hv12 
  go_upto_region 5 with fail
  refine wpG_region ?_
  refine wpG_tk (some 20) (v:=.int .i64 (s : Int)) rfl (.val (by rfl) (fun _ _=>rfl)) ?_
  simp only [Act.put,List.setIfInBounds_toArray,List.set_cons_zero,List.set_cons_succ]
  refine wpG_tk (some 21) (v:=.int .i64 5) rfl (.val (by rfl) (fun W hg=>by have q:=HKI.out;go_simp <;> rfl)) ?_
  simp only [Act.put,List.setIfInBounds_toArray,List.set_cons_zero,List.set_cons_succ]
  refine wpG_tk (some 22) (v:=.agg #[.int .i64 2, .int .i64 1, .int .i64 0]) rfl (.call (f:=96) (args:=#[.int .i64 5]) (by rfl) (fun W=>by go_simp) (fun W hg=>(by have c:=order_any 5 W (by decide);exact c))) ?_
  simp only [Act.put,List.setIfInBounds_toArray,List.set_cons_zero,List.set_cons_succ]
  refine wpG_val (some 9) rfl (by rfl) (fun W20 hg21=>⟨.pointer (some ⟨W20.heap.size,0,none⟩),W20.alloc (.cells #[.int .i64 0, .int .i64 0, .int .i64 0] 80),by (go_simp <;> rfl), ?_⟩)
  simp only [Act.put,List.setIfInBounds_toArray,List.set_cons_zero,List.set_cons_succ]
  refine wpG_store (none) rfl (by rfl) (fun W22 hg23=>⟨_,run_store_mid 80 (.tmp 9) (.tmp 22) rfl (W20.heap.size) 0 #[.int .i64 2, .int .i64 1, .int .i64 0] rfl rfl (Row.room hg23 3 rfl) (by kernel_rfl) (by kernel_rfl), ?_⟩)
  simp only [Act.put]
  refine wpG_done (fun V24 hv25=>?_)
  have l27 : w.heap.size < W20.heap.size:=(R17.out.below hg21).lt
  have l28 : w.heap.size + 1 < W20.heap.size:=(R18.out.below hg21).lt
  have l29 : W7.heap.size < W20.heap.size:=(R19.out.below hg21).lt
  have l30 : w.heap.size ≤ W20.heap.size:=(Gr.to G13.out hg21).size
  have R31:=Lib.hid ((R17.out.below hg21).past hg23 hv25)
  have R32:=Lib.hid ((R18.out.below hg21).past hg23 hv25)
  have R33:=Lib.hid ((R19.out.below hg21).past hg23 hv25)
  have R34:=Lib.hid (Row.made (zs:=[.int .i64 0, .int .i64 0, .int .i64 0]) (ds:=[.int .i64 2, .int .i64 1, .int .i64 0]) rfl hg23 hv25)
  have G26:=Lib.hid (Gr.to (Gr.to G13.out hg21) (Gr.past hg23 hv25))
  clear hg23 hv25 
  have TB:=Lib.hid (RR.begin (Z:=[.int .i64 0, .int .i64 0, .int .i64 0]) 80 R33.out R34.out R32.out (Row.lt R33.out) (Row.lt R34.out) (Row.lt R32.out) G26.out)
  clear HU
  go_wp2_with fail
  go_loopw [11] (fun c wr=>∃ i Z,c = .int .i64 ((i : Nat) : Int) ∧ i ≤ 3 ∧ Z = rfil5 less s x1 x2 x3 i ∧ RR (W7.heap.size) (W20.heap.size) V24.heap.size (w.heap.size + 1) [.int .i64 x1, .int .i64 x2, .int .i64 x3] [.int .i64 2, .int .i64 1, .int .i64 0] Z w wr) (fun c _=>3 - (intOf c).toNat)
  case atStart=>exact ⟨0,_,rfl,by omega,rfl,TB.out⟩
  case round =>
    obtain ⟨i,Z,rfl,hi,hZ,hR⟩:=hrel
    have hc : i = 0 ∨ i = 1 ∨ i = 2 ∨ i = 3:=by omega
    rcases hc with rfl | rfl | rfl | rfl
    · rw [show Z = [.int .i64 0, .int .i64 0, .int .i64 0] from hZ] at hR
      clear hZ hi
      have a0:=hR.rq.cellx 0 _ rfl
      have d2:=hR.rp.cellx 2 _ rfl
      have e0:=hR.rt.cellx 0 _ rfl
      have f0:=hR.rt.softx 0 _ rfl
      have N:=CN.out 0 (by decide)
      have N2 : ∀ W,Calls Tryd.prog 97 #[.int .i64 (s : Int), .int .i64 0] W fun e w'=>e = .returned (.bool (Pt.bit s 0)) ∧ w' = W:=N
      clear N
      have htc : Pt.tc less s 0 x1 x2 x3 = bif Pt.bit s 0 then -x3 - less else x3:=by unfold Pt.tc;rw [HK.out];rfl
      cases hb : Pt.bit s 0 with
      | false =>
        rw [hb] at htc N2
        have N3:=Lib.hid N2
        rw [show (bif false then -x3 - less else x3) = x3 from rfl] at htc
        have hR2:=hR.set 0 (.int .i64 x3) (by simp)
        have HR:=Lib.hid hR2
        have HTC:=Lib.hid htc
        clear htc hR2 hR N2 hb
        go_wp2_with fail
        refine (N3.out _).mono ?_
        rintro e w2 ⟨rfl,rfl⟩
        clear N3
        go_wp2_with fail
        first
          | exact ⟨⟨1,_,rfl,by omega,(by rw [show rfil5 less s x1 x2 x3 1 = [.int .i64 (Pt.tc less s 0 x1 x2 x3), .int .i64 0, .int .i64 0] from rfl,HTC.out];rfl),HR.out⟩,by simp [intOf]⟩
          | (go_roundw
             case rel=>exact ⟨1,_,rfl,by omega,(by rw [show rfil5 less s x1 x2 x3 1 = [.int .i64 (Pt.tc less s 0 x1 x2 x3), .int .i64 0, .int .i64 0] from rfl,HTC.out];rfl),HR.out⟩
             case measure=>simp [intOf])
      | true =>
        rw [hb] at htc N2
        have N3:=Lib.hid N2
        rw [show (bif true then -x3 - less else x3) = -x3 - less from rfl] at htc
        have hR2:=(hR.set 0 (.int .i64 x3) (by simp)).set 0 (.int .i64 (-x3 - less)) (by simp)
        have HR:=Lib.hid hR2
        have HTC:=Lib.hid htc
        clear htc hR2 hR N2 hb
        go_wp2_with fail
        refine (N3.out _).mono ?_
        rintro e w2 ⟨rfl,rfl⟩
        clear N3
        go_wp2_with fail
        first
          | exact ⟨⟨1,_,rfl,by omega,(by rw [show rfil5 less s x1 x2 x3 1 = [.int .i64 (Pt.tc less s 0 x1 x2 x3), .int .i64 0, .int .i64 0] from rfl,HTC.out];rfl),HR.out⟩,by simp [intOf]⟩
          | (go_roundw
             case rel=>exact ⟨1,_,rfl,by omega,(by rw [show rfil5 less s x1 x2 x3 1 = [.int .i64 (Pt.tc less s 0 x1 x2 x3), .int .i64 0, .int .i64 0] from rfl,HTC.out];rfl),HR.out⟩
             case measure=>simp [intOf])
    · rw [show Z = [.int .i64 (Pt.tc less s 0 x1 x2 x3), .int .i64 0, .int .i64 0] from hZ] at hR
      clear hZ hi
      have a1:=hR.rq.cellx 1 _ rfl
      have d1:=hR.rp.cellx 1 _ rfl
      have e1:=hR.rt.cellx 1 _ rfl
      have f1:=hR.rt.softx 1 _ rfl
      have N:=CN.out 1 (by decide)
      have N2 : ∀ W,Calls Tryd.prog 97 #[.int .i64 (s : Int), .int .i64 1] W fun e w'=>e = .returned (.bool (Pt.bit s 1)) ∧ w' = W:=N
      clear N
      have htc : Pt.tc less s 1 x1 x2 x3 = bif Pt.bit s 1 then -x2 - less else x2:=by unfold Pt.tc;rw [HK.out];rfl
      cases hb : Pt.bit s 1 with
      | false =>
        rw [hb] at htc N2
        have N3:=Lib.hid N2
        rw [show (bif false then -x2 - less else x2) = x2 from rfl] at htc
        have hR2:=hR.set 1 (.int .i64 x2) (by simp)
        have HR:=Lib.hid hR2
        have HTC:=Lib.hid htc
        clear htc hR2 hR N2 hb
        go_wp2_with fail
        refine (N3.out _).mono ?_
        rintro e w2 ⟨rfl,rfl⟩
        clear N3
        go_wp2_with fail
        first
          | exact ⟨⟨2,_,rfl,by omega,(by rw [show rfil5 less s x1 x2 x3 2 = [.int .i64 (Pt.tc less s 0 x1 x2 x3), .int .i64 (Pt.tc less s 1 x1 x2 x3), .int .i64 0] from rfl,HTC.out];rfl),HR.out⟩,by simp [intOf]⟩
          | (go_roundw
             case rel=>exact ⟨2,_,rfl,by omega,(by rw [show rfil5 less s x1 x2 x3 2 = [.int .i64 (Pt.tc less s 0 x1 x2 x3), .int .i64 (Pt.tc less s 1 x1 x2 x3), .int .i64 0] from rfl,HTC.out];rfl),HR.out⟩
             case measure=>simp [intOf])
      | true =>
        rw [hb] at htc N2
        have N3:=Lib.hid N2
        rw [show (bif true then -x2 - less else x2) = -x2 - less from rfl] at htc
        have hR2:=(hR.set 1 (.int .i64 x2) (by simp)).set 1 (.int .i64 (-x2 - less)) (by simp)
        have HR:=Lib.hid hR2
        have HTC:=Lib.hid htc
        clear htc hR2 hR N2 hb
        go_wp2_with fail
        refine (N3.out _).mono ?_
        rintro e w2 ⟨rfl,rfl⟩
        clear N3
        go_wp2_with fail
        first
          | exact ⟨⟨2,_,rfl,by omega,(by rw [show rfil5 less s x1 x2 x3 2 = [.int .i64 (Pt.tc less s 0 x1 x2 x3), .int .i64 (Pt.tc less s 1 x1 x2 x3), .int .i64 0] from rfl,HTC.out];rfl),HR.out⟩,by simp [intOf]⟩
          | (go_roundw
             case rel=>exact ⟨2,_,rfl,by omega,(by rw [show rfil5 less s x1 x2 x3 2 = [.int .i64 (Pt.tc less s 0 x1 x2 x3), .int .i64 (Pt.tc less s 1 x1 x2 x3), .int .i64 0] from rfl,HTC.out];rfl),HR.out⟩
             case measure=>simp [intOf])
    · rw [show Z = [.int .i64 (Pt.tc less s 0 x1 x2 x3), .int .i64 (Pt.tc less s 1 x1 x2 x3), .int .i64 0] from hZ] at hR
      clear hZ hi
      have a2:=hR.rq.cellx 2 _ rfl
      have d0:=hR.rp.cellx 0 _ rfl
      have e2:=hR.rt.cellx 2 _ rfl
      have f2:=hR.rt.softx 2 _ rfl
      have N:=CN.out 2 (by decide)
      have N2 : ∀ W,Calls Tryd.prog 97 #[.int .i64 (s : Int), .int .i64 2] W fun e w'=>e = .returned (.bool (Pt.bit s 2)) ∧ w' = W:=N
      clear N
      have htc : Pt.tc less s 2 x1 x2 x3 = bif Pt.bit s 2 then -x1 - less else x1:=by unfold Pt.tc;rw [HK.out];rfl
      cases hb : Pt.bit s 2 with
      | false =>
        rw [hb] at htc N2
        have N3:=Lib.hid N2
        rw [show (bif false then -x1 - less else x1) = x1 from rfl] at htc
        have hR2:=hR.set 2 (.int .i64 x1) (by simp)
        have HR:=Lib.hid hR2
        have HTC:=Lib.hid htc
        clear htc hR2 hR N2 hb
        go_wp2_with fail
        refine (N3.out _).mono ?_
        rintro e w2 ⟨rfl,rfl⟩
        clear N3
        go_wp2_with fail
        first
          | exact ⟨⟨3,_,rfl,by omega,(by rw [show rfil5 less s x1 x2 x3 3 = [.int .i64 (Pt.tc less s 0 x1 x2 x3), .int .i64 (Pt.tc less s 1 x1 x2 x3), .int .i64 (Pt.tc less s 2 x1 x2 x3)] from rfl,HTC.out];rfl),HR.out⟩,by simp [intOf]⟩
          | (go_roundw
             case rel=>exact ⟨3,_,rfl,by omega,(by rw [show rfil5 less s x1 x2 x3 3 = [.int .i64 (Pt.tc less s 0 x1 x2 x3), .int .i64 (Pt.tc less s 1 x1 x2 x3), .int .i64 (Pt.tc less s 2 x1 x2 x3)] from rfl,HTC.out];rfl),HR.out⟩
             case measure=>simp [intOf])
      | true =>
        rw [hb] at htc N2
        have N3:=Lib.hid N2
        rw [show (bif true then -x1 - less else x1) = -x1 - less from rfl] at htc
        have hR2:=(hR.set 2 (.int .i64 x1) (by simp)).set 2 (.int .i64 (-x1 - less)) (by simp)
        have HR:=Lib.hid hR2
        have HTC:=Lib.hid htc
        clear htc hR2 hR N2 hb
        go_wp2_with fail
        refine (N3.out _).mono ?_
        rintro e w2 ⟨rfl,rfl⟩
        clear N3
        go_wp2_with fail
        first
          | exact ⟨⟨3,_,rfl,by omega,(by rw [show rfil5 less s x1 x2 x3 3 = [.int .i64 (Pt.tc less s 0 x1 x2 x3), .int .i64 (Pt.tc less s 1 x1 x2 x3), .int .i64 (Pt.tc less s 2 x1 x2 x3)] from rfl,HTC.out];rfl),HR.out⟩,by simp [intOf]⟩
          | (go_roundw
             case rel=>exact ⟨3,_,rfl,by omega,(by rw [show rfil5 less s x1 x2 x3 3 = [.int .i64 (Pt.tc less s 0 x1 x2 x3), .int .i64 (Pt.tc less s 1 x1 x2 x3), .int .i64 (Pt.tc less s 2 x1 x2 x3)] from rfl,HTC.out];rfl),HR.out⟩
             case measure=>simp [intOf])
    · rw [show Z = [.int .i64 (Pt.tc less s 0 x1 x2 x3), .int .i64 (Pt.tc less s 1 x1 x2 x3), .int .i64 (Pt.tc less s 2 x1 x2 x3)] from hZ] at hR
      clear hZ hi
      have HR:=Lib.hid hR
      have e0:=hR.rt.cellx 0 _ rfl
      have e1:=hR.rt.cellx 1 _ rfl
      have e2:=hR.rt.cellx 2 _ rfl
      clear hR
      go_wp2_with fail
      refine (rof_any _ _ _ _).mono ?_
      rintro e w2 ⟨rfl,b2⟩
      have hR2:=HR.out.below b2
      have r0:=hR2.rr.cellx 0 _ rfl
      have s0:=hR2.rr.softx 0 _ rfl
      have r1:=hR2.rr.cellx 1 _ rfl
      have s1:=hR2.rr.softx 1 _ rfl
      have r2:=hR2.rr.cellx 2 _ rfl
      have s2:=hR2.rr.softx 2 _ rfl
      have HR2:=Lib.hid hR2
      clear hR2 b2
      go_wp2_with fail
      refine bodyPost_ret (results_cell_mid rfl _ _ _ (w.heap.size + 1) 0 [.int .i64 (Pt.tc less s 0 x1 x2 x3), .int .i64 (Pt.tc less s 1 x1 x2 x3), .int .i64 (Pt.tc less s 2 x1 x2 x3)] _ rfl (Row.over (D:=[.int .i64 (Pt.tc less s 0 x1 x2 x3), .int .i64 (Pt.tc less s 1 x1 x2 x3), .int .i64 (Pt.tc less s 2 x1 x2 x3)]) HR2.out.rr rfl).range Tryd.underlying23 rfl (by kernel_rfl)) rfl ?_
      exact ⟨rfl,below_setCells (by omega) [.int .i64 (Pt.tc less s 0 x1 x2 x3), .int .i64 (Pt.tc less s 1 x1 x2 x3), .int .i64 (Pt.tc less s 2 x1 x2 x3)] 0 _ _ HR2.out.bel⟩

end Go.Proofs.YtjdeaopdbenamaaDoor
