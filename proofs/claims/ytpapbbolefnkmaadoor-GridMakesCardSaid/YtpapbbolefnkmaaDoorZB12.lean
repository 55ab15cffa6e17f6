/-
  The contract of turn, for the order of axes 3.
-/
import Derived.Test.YtpapbbolefnkmaaDoorZB00
import Derived.Test.YtpapbbolefnkmaaDoorZB08
import Derived.Handy
namespace Go.Proofs.YtpapbbolefnkmaaDoor
open Go.RowKit
set_option linter.unusedVariables false
def fil3 (less : Int) (s : Nat) (x1 x2 x3 : Int) : Nat → List Value
  | 0=>[.int .i64 0, .int .i64 0, .int .i64 0]
  | 1=>[.int .i64 (Pt.tc less s 0 x1 x2 x3), .int .i64 0, .int .i64 0]
  | 2=>[.int .i64 (Pt.tc less s 0 x1 x2 x3), .int .i64 (Pt.tc less s 1 x1 x2 x3), .int .i64 0]
  | _=>[.int .i64 (Pt.tc less s 0 x1 x2 x3), .int .i64 (Pt.tc less s 1 x1 x2 x3), .int .i64 (Pt.tc less s 2 x1 x2 x3)]
set_option maxRecDepth 1000000 in
set_option maxHeartbeats 4000000 in
theorem turn_o3 (n : FuncId) (less : Int) (s : Nat) (x1 x2 x3 : Int) (w : World) (hT : Tab w) (hs : s < 48) (hk : (s : Int) / 8 = 3) (h : (-2097152 ≤ x1 ∧ x1 ≤ 2097152) ∧ (-2097152 ≤ x2 ∧ x2 ≤ 2097152) ∧ (-2097152 ≤ x3 ∧ x3 ≤ 2097152))
    (hn : ∀ (l : Array Value) (W : World),(callFunc n l).run Tryd.prog W = .ok (.enter n l) W)
    (hf : ∀ (v : Int) (W : World),-2097152 ≤ v ∧ v ≤ 2097152 → Calls Tryd.prog n #[.int .i64 v] W fun e w'=>e = .returned (.int .i64 (-v - less)) ∧ w' = W) :
    Calls Tryd.prog 93 #[.int .i64 (s : Int), .agg #[.int .i64 x1, .int .i64 x2, .int .i64 x3], .func (.func n) #[] #[]] w fun e w'=>e = .returned (.agg #[.int .i64 (Pt.tc less s 0 x1 x2 x3), .int .i64 (Pt.tc less s 1 x1 x2 x3), .int .i64 (Pt.tc less s 2 x1 x2 x3)]) ∧ Below w.heap.size w w':=by
  have C:=Lib.hid hf
  have HN:=Lib.hid hn
  clear hf hn
  have CS : Hid (∀ W,Calls Tryd.prog 90 #[.int .i64 (s : Int)] W fun e w'=>e = .returned (.bool true) ∧ Below W.heap.size W w'):=Lib.hid (fun W=>by
    have:=symmetry_any (s : Int) W
    rwa [decide_eq_true (show 0 ≤ (s : Int) ∧ (s : Int) < 48 by omega)] at this)
  have CN : Hid (∀ i : Nat,i < 3 → ∀ W,Calls Tryd.prog 109 #[.int .i64 (s : Int), .int .i64 (i : Int)] W fun e w'=>e = .returned (.bool (Pt.bit s i)) ∧ w' = W):=Lib.hid (fun i hi W=>negates_same s i W hs hi)
  have HK:=Lib.hid (show s / 8 = 3 by omega)
  obtain ⟨u,hu,r0,r1,g0⟩:=rows2 w [.int .i64 x1, .int .i64 x2, .int .i64 x3] 23 [.int .i64 0, .int .i64 0, .int .i64 0] 23
  have R0:=Lib.hid r0
  have R1:=Lib.hid r1
  have G0:=Lib.hid g0
  have HU:=Lib.hid hu
  have HT:=Lib.hid (hT.below g0)
  clear hT
  clear hu g0 r0 r1
  go_enter Tryd.func93,Tryd.ntmps93
  go_upto_region 1 with fail
  rw [← HU.out]
  refine wpG_region ?_
  refine wpG_tk (some 11) (v:=.int .i64 (s : Int)) rfl (.val (by rfl) (fun _ _=>rfl)) ?_
  simp only [Act.put,zA,zB,zC]
  refine wpG_tk (some 12) (v:=.bool true) rfl (.call (f:=90) (args:=#[.int .i64 (s : Int)]) (by rfl) (fun W=>by go_simp) (fun W hg=>CS.out W)) ?_
  simp only [Act.put,zA,zB,zC]
  refine wpG_tk (some 13) (v:=.bool false) rfl (.val (by rfl) (fun W hg=>by go_simp)) ?_
  simp only [Act.put,zA,zB,zC]
  refine wpG_done (fun V1 hv2=>?_)
  have GC3:=Lib.hid hv2
  clear hv2
  go_upto_region 3 with fail
  refine wpG_region ?_
  refine wpG_tk (some 15) (v:=.pointer (some ⟨w.heap.size,0,none⟩)) rfl (.val (by rfl) (fun W hg=>by go_simp)) ?_
  simp only [Act.put,zA,zB,zC]
  refine wpG_tk (some 16) (v:=.int .i64 x1) rfl (.val (by rfl) (fun W hg=>by have c:=(R0.out.below (GC3.out.trans hg) 0 _ rfl).1;go_simp)) ?_
  simp only [Act.put,zA,zB,zC]
  refine wpG_tk (some 17) (v:=.pointer (some ⟨w.heap.size,1,none⟩)) rfl (.val (by rfl) (fun W hg=>by go_simp)) ?_
  simp only [Act.put,zA,zB,zC]
  refine wpG_tk (some 18) (v:=.int .i64 x2) rfl (.val (by rfl) (fun W hg=>by have c:=(R0.out.below (GC3.out.trans hg) 1 _ rfl).1;go_simp)) ?_
  simp only [Act.put,zA,zB,zC]
  refine wpG_tk (some 19) (v:=.pointer (some ⟨w.heap.size,2,none⟩)) rfl (.val (by rfl) (fun W hg=>by go_simp)) ?_
  simp only [Act.put,zA,zB,zC]
  refine wpG_tk (some 20) (v:=.int .i64 x3) rfl (.val (by rfl) (fun W hg=>by have c:=(R0.out.below (GC3.out.trans hg) 2 _ rfl).1;go_simp)) ?_
  simp only [Act.put,zA,zB,zC]
  refine wpG_tk (some 21) (v:=.agg #[.int .i64 x1, .int .i64 x2, .int .i64 x3]) rfl (.val (by rfl) (fun W hg=>by go_simp)) ?_
  simp only [Act.put,zA,zB,zC]
  refine wpG_val (some 7) rfl (by rfl) (fun W4 hg5=>⟨.pointer (some ⟨W4.heap.size,0,none⟩),W4.alloc (.cells #[.int .i64 0, .int .i64 0, .int .i64 0] 80),by (go_simp <;> rfl), ?_⟩)
  simp only [Act.put,zA,zB,zC]
  refine wpG_store (none) rfl (by rfl) (fun W6 hg7=>⟨_,run_store_mid 80 (.tmp 7) (.tmp 21) rfl (W4.heap.size) 0 #[.int .i64 x1, .int .i64 x2, .int .i64 x3] rfl rfl (Row.room hg7 3 rfl) (by kernel_rfl) (by kernel_rfl), ?_⟩)
  simp only [Act.put]
  refine wpG_done (fun V8 hv9=>?_)
  have R11:=Lib.hid ((R0.out.below (GC3.out.trans hg5)).past hg7 hv9)
  have R12:=Lib.hid ((R1.out.below (GC3.out.trans hg5)).past hg7 hv9)
  have R13:=Lib.hid (Row.made (zs:=[.int .i64 0, .int .i64 0, .int .i64 0]) (ds:=[.int .i64 x1, .int .i64 x2, .int .i64 x3]) rfl hg7 hv9)
  have G10:=Lib.hid (Gr.to (Gr.to G0.out (GC3.out.trans hg5)) (Gr.past hg7 hv9))
  have HT:=Lib.hid (HT.out.below ((GC3.out.trans hg5).trans (Gr.past hg7 hv9)))
  clear hg7 hv9 
  have hg:=HT.out 3 _ rfl
  have hgl : 0 < V8.heap.size:=World.block_lt_of_cell? V8 _ hg
  rw [Nat.zero_add] at hg
  have TB:=Lib.hid (TR.begin (S:=⟨#[121,122,120]⟩) (Z:=[.int .i64 0, .int .i64 0, .int .i64 0]) 80 rfl R13.out R12.out (Row.lt R13.out) (Row.lt R12.out) G10.out)
  clear HU
  go_wp2_with fail
  go_loopw [] (fun wr=>∃ i Z,i ≤ 3 ∧ Z = fil3 less s x1 x2 x3 i ∧ TR (V8.heap.size + 1) (V8.heap.size) (W4.heap.size) (w.heap.size + 1) ⟨#[121,122,120]⟩ i [.int .i64 x1, .int .i64 x2, .int .i64 x3] Z w wr) (fun wr=>3 - wr.iterPos (V8.heap.size + 1))
  case atStart=>exact ⟨0,_,by omega,rfl,TB.out⟩
  case round =>
    obtain ⟨i,Z,hi,hZ,hR⟩:=hrel
    have hc : i = 0 ∨ i = 1 ∨ i = 2 ∨ i = 3:=by omega
    rcases hc with rfl | rfl | rfl | rfl
    · rw [show Z = [.int .i64 0, .int .i64 0, .int .i64 0] from hZ] at hR
      clear hZ hi
      have hnx0 : ∀ ty,(Instr.next (.pointer (some ⟨V8.heap.size + 1,0,none⟩)) true ty).run Tryd.prog wr = .ok (.tuple #[.bool true, .int .i64 0, .int .i32 121]) (wr.iterAt (V8.heap.size + 1) ⟨#[121,122,120]⟩ 1):=fun ty=>Lib.run_next_ascii_at wr (V8.heap.size + 1) ⟨#[121,122,120]⟩ 0 ty hR.it (by decide) (by decide)
      have hm:=hR.pos
      have HM:=Lib.hid hm
      clear hm
      have hR1:=hR.next 1
      obtain ⟨W1,hW1⟩ : ∃ z,z = wr.iterAt (V8.heap.size + 1) ⟨#[121,122,120]⟩ 1:=⟨_,rfl⟩
      rw [← hW1] at hR1
      have hnx : ∀ ty,(Instr.next (.pointer (some ⟨V8.heap.size + 1,0,none⟩)) true ty).run Tryd.prog wr = .ok (.tuple #[.bool true, .int .i64 0, .int .i32 121]) W1:=by rw [hW1];exact hnx0
      clear hnx0 hW1 hR
      have d1:=hR1.rp.cell1 1 _ rfl
      have e0:=hR1.rt.cell1 0 _ rfl
      have f0:=hR1.rt.soft 0 _ rfl
      have N:=CN.out 0 (by decide)
      have N2 : ∀ W,Calls Tryd.prog 109 #[.int .i64 (s : Int), .int .i64 0] W fun e w'=>e = .returned (.bool (Pt.bit s 0)) ∧ w' = W:=N
      clear N
      have htc : Pt.tc less s 0 x1 x2 x3 = bif Pt.bit s 0 then -x2 - less else x2:=by unfold Pt.tc;rw [HK.out];rfl
      cases hb : Pt.bit s 0 with
      | false =>
        rw [hb] at htc N2
        have N3:=Lib.hid N2
        rw [show (bif false then -x2 - less else x2) = x2 from rfl] at htc
        have hR2:=hR1.set 0 (.int .i64 x2) (by simp)
        have HR:=Lib.hid hR2
        have HTC:=Lib.hid htc
        clear htc hR2 hR1 N2 hb
        go_wp2_with fail
        refine (N3.out _).mono ?_
        rintro e w2 ⟨rfl,rfl⟩
        clear N3
        go_wp2_with fail
        first
          | exact ⟨⟨1,_,by omega,(by rw [show fil3 less s x1 x2 x3 1 = [.int .i64 (Pt.tc less s 0 x1 x2 x3), .int .i64 0, .int .i64 0] from rfl,HTC.out];rfl),HR.out⟩,by rw [HR.out.pos,HM.out];omega⟩
          | (go_roundw
             case rel=>exact ⟨1,_,by omega,(by rw [show fil3 less s x1 x2 x3 1 = [.int .i64 (Pt.tc less s 0 x1 x2 x3), .int .i64 0, .int .i64 0] from rfl,HTC.out];rfl),HR.out⟩
             case measure=>rw [HR.out.pos,HM.out];omega)
      | true =>
        rw [hb] at htc N2
        have N3:=Lib.hid N2
        rw [show (bif true then -x2 - less else x2) = -x2 - less from rfl] at htc
        have hR2:=(hR1.set 0 (.int .i64 x2) (by simp)).set 0 (.int .i64 (-x2 - less)) (by simp)
        have HR:=Lib.hid hR2
        have HTC:=Lib.hid htc
        clear htc hR2 hR1 N2 hb
        go_wp2_with fail
        refine (N3.out _).mono ?_
        rintro e w2 ⟨rfl,rfl⟩
        clear N3
        have hn:=HN.out
        go_wp2_with fail
        refine (C.out x2 _ (by omega)).mono ?_
        rintro e w2 ⟨rfl,rfl⟩
        clear hn
        go_wp2_with fail
        first
          | exact ⟨⟨1,_,by omega,(by rw [show fil3 less s x1 x2 x3 1 = [.int .i64 (Pt.tc less s 0 x1 x2 x3), .int .i64 0, .int .i64 0] from rfl,HTC.out];rfl),HR.out⟩,by rw [HR.out.pos,HM.out];omega⟩
          | (go_roundw
             case rel=>exact ⟨1,_,by omega,(by rw [show fil3 less s x1 x2 x3 1 = [.int .i64 (Pt.tc less s 0 x1 x2 x3), .int .i64 0, .int .i64 0] from rfl,HTC.out];rfl),HR.out⟩
             case measure=>rw [HR.out.pos,HM.out];omega)
    · rw [show Z = [.int .i64 (Pt.tc less s 0 x1 x2 x3), .int .i64 0, .int .i64 0] from hZ] at hR
      clear hZ hi
      have hnx0 : ∀ ty,(Instr.next (.pointer (some ⟨V8.heap.size + 1,0,none⟩)) true ty).run Tryd.prog wr = .ok (.tuple #[.bool true, .int .i64 1, .int .i32 122]) (wr.iterAt (V8.heap.size + 1) ⟨#[121,122,120]⟩ 2):=fun ty=>Lib.run_next_ascii_at wr (V8.heap.size + 1) ⟨#[121,122,120]⟩ 1 ty hR.it (by decide) (by decide)
      have hm:=hR.pos
      have HM:=Lib.hid hm
      clear hm
      have hR1:=hR.next 2
      obtain ⟨W1,hW1⟩ : ∃ z,z = wr.iterAt (V8.heap.size + 1) ⟨#[121,122,120]⟩ 2:=⟨_,rfl⟩
      rw [← hW1] at hR1
      have hnx : ∀ ty,(Instr.next (.pointer (some ⟨V8.heap.size + 1,0,none⟩)) true ty).run Tryd.prog wr = .ok (.tuple #[.bool true, .int .i64 1, .int .i32 122]) W1:=by rw [hW1];exact hnx0
      clear hnx0 hW1 hR
      have d2:=hR1.rp.cell1 2 _ rfl
      have e1:=hR1.rt.cell1 1 _ rfl
      have f1:=hR1.rt.soft 1 _ rfl
      have N:=CN.out 1 (by decide)
      have N2 : ∀ W,Calls Tryd.prog 109 #[.int .i64 (s : Int), .int .i64 1] W fun e w'=>e = .returned (.bool (Pt.bit s 1)) ∧ w' = W:=N
      clear N
      have htc : Pt.tc less s 1 x1 x2 x3 = bif Pt.bit s 1 then -x3 - less else x3:=by unfold Pt.tc;rw [HK.out];rfl
      cases hb : Pt.bit s 1 with
      | false =>
        rw [hb] at htc N2
        have N3:=Lib.hid N2
        rw [show (bif false then -x3 - less else x3) = x3 from rfl] at htc
        have hR2:=hR1.set 1 (.int .i64 x3) (by simp)
        have HR:=Lib.hid hR2
        have HTC:=Lib.hid htc
        clear htc hR2 hR1 N2 hb
        go_wp2_with fail
        refine (N3.out _).mono ?_
        rintro e w2 ⟨rfl,rfl⟩
        clear N3
        go_wp2_with fail
        first
          | exact ⟨⟨2,_,by omega,(by rw [show fil3 less s x1 x2 x3 2 = [.int .i64 (Pt.tc less s 0 x1 x2 x3), .int .i64 (Pt.tc less s 1 x1 x2 x3), .int .i64 0] from rfl,HTC.out];rfl),HR.out⟩,by rw [HR.out.pos,HM.out];omega⟩
          | (go_roundw
             case rel=>exact ⟨2,_,by omega,(by rw [show fil3 less s x1 x2 x3 2 = [.int .i64 (Pt.tc less s 0 x1 x2 x3), .int .i64 (Pt.tc less s 1 x1 x2 x3), .int .i64 0] from rfl,HTC.out];rfl),HR.out⟩
             case measure=>rw [HR.out.pos,HM.out];omega)
      | true =>
        rw [hb] at htc N2
        have N3:=Lib.hid N2
        rw [show (bif true then -x3 - less else x3) = -x3 - less from rfl] at htc
        have hR2:=(hR1.set 1 (.int .i64 x3) (by simp)).set 1 (.int .i64 (-x3 - less)) (by simp)
        have HR:=Lib.hid hR2
        have HTC:=Lib.hid htc
        clear htc hR2 hR1 N2 hb
        go_wp2_with fail
        refine (N3.out _).mono ?_
        rintro e w2 ⟨rfl,rfl⟩
        clear N3
        have hn:=HN.out
        go_wp2_with fail
        refine (C.out x3 _ (by omega)).mono ?_
        rintro e w2 ⟨rfl,rfl⟩
        clear hn
        go_wp2_with fail
        first
          | exact ⟨⟨2,_,by omega,(by rw [show fil3 less s x1 x2 x3 2 = [.int .i64 (Pt.tc less s 0 x1 x2 x3), .int .i64 (Pt.tc less s 1 x1 x2 x3), .int .i64 0] from rfl,HTC.out];rfl),HR.out⟩,by rw [HR.out.pos,HM.out];omega⟩
          | (go_roundw
             case rel=>exact ⟨2,_,by omega,(by rw [show fil3 less s x1 x2 x3 2 = [.int .i64 (Pt.tc less s 0 x1 x2 x3), .int .i64 (Pt.tc less s 1 x1 x2 x3), .int .i64 0] from rfl,HTC.out];rfl),HR.out⟩
             case measure=>rw [HR.out.pos,HM.out];omega)
    · rw [show Z = [.int .i64 (Pt.tc less s 0 x1 x2 x3), .int .i64 (Pt.tc less s 1 x1 x2 x3), .int .i64 0] from hZ] at hR
      clear hZ hi
      have hnx0 : ∀ ty,(Instr.next (.pointer (some ⟨V8.heap.size + 1,0,none⟩)) true ty).run Tryd.prog wr = .ok (.tuple #[.bool true, .int .i64 2, .int .i32 120]) (wr.iterAt (V8.heap.size + 1) ⟨#[121,122,120]⟩ 3):=fun ty=>Lib.run_next_ascii_at wr (V8.heap.size + 1) ⟨#[121,122,120]⟩ 2 ty hR.it (by decide) (by decide)
      have hm:=hR.pos
      have HM:=Lib.hid hm
      clear hm
      have hR1:=hR.next 3
      obtain ⟨W1,hW1⟩ : ∃ z,z = wr.iterAt (V8.heap.size + 1) ⟨#[121,122,120]⟩ 3:=⟨_,rfl⟩
      rw [← hW1] at hR1
      have hnx : ∀ ty,(Instr.next (.pointer (some ⟨V8.heap.size + 1,0,none⟩)) true ty).run Tryd.prog wr = .ok (.tuple #[.bool true, .int .i64 2, .int .i32 120]) W1:=by rw [hW1];exact hnx0
      clear hnx0 hW1 hR
      have d0:=hR1.rp.cell1 0 _ rfl
      have e2:=hR1.rt.cell1 2 _ rfl
      have f2:=hR1.rt.soft 2 _ rfl
      have N:=CN.out 2 (by decide)
      have N2 : ∀ W,Calls Tryd.prog 109 #[.int .i64 (s : Int), .int .i64 2] W fun e w'=>e = .returned (.bool (Pt.bit s 2)) ∧ w' = W:=N
      clear N
      have htc : Pt.tc less s 2 x1 x2 x3 = bif Pt.bit s 2 then -x1 - less else x1:=by unfold Pt.tc;rw [HK.out];rfl
      cases hb : Pt.bit s 2 with
      | false =>
        rw [hb] at htc N2
        have N3:=Lib.hid N2
        rw [show (bif false then -x1 - less else x1) = x1 from rfl] at htc
        have hR2:=hR1.set 2 (.int .i64 x1) (by simp)
        have HR:=Lib.hid hR2
        have HTC:=Lib.hid htc
        clear htc hR2 hR1 N2 hb
        go_wp2_with fail
        refine (N3.out _).mono ?_
        rintro e w2 ⟨rfl,rfl⟩
        clear N3
        go_wp2_with fail
        first
          | exact ⟨⟨3,_,by omega,(by rw [show fil3 less s x1 x2 x3 3 = [.int .i64 (Pt.tc less s 0 x1 x2 x3), .int .i64 (Pt.tc less s 1 x1 x2 x3), .int .i64 (Pt.tc less s 2 x1 x2 x3)] from rfl,HTC.out];rfl),HR.out⟩,by rw [HR.out.pos,HM.out];omega⟩
          | (go_roundw
             case rel=>exact ⟨3,_,by omega,(by rw [show fil3 less s x1 x2 x3 3 = [.int .i64 (Pt.tc less s 0 x1 x2 x3), .int .i64 (Pt.tc less s 1 x1 x2 x3), .int .i64 (Pt.tc less s 2 x1 x2 x3)] from rfl,HTC.out];rfl),HR.out⟩
             case measure=>rw [HR.out.pos,HM.out];omega)
      | true =>
        rw [hb] at htc N2
        have N3:=Lib.hid N2
        rw [show (bif true then -x1 - less else x1) = -x1 - less from rfl] at htc
        have hR2:=(hR1.set 2 (.int .i64 x1) (by simp)).set 2 (.int .i64 (-x1 - less)) (by simp)
        have HR:=Lib.hid hR2
        have HTC:=Lib.hid htc
        clear htc hR2 hR1 N2 hb
        go_wp2_with fail
        refine (N3.out _).mono ?_
        rintro e w2 ⟨rfl,rfl⟩
        clear N3
        have hn:=HN.out
        go_wp2_with fail
        refine (C.out x1 _ (by omega)).mono ?_
        rintro e w2 ⟨rfl,rfl⟩
        clear hn
        go_wp2_with fail
        first
          | exact ⟨⟨3,_,by omega,(by rw [show fil3 less s x1 x2 x3 3 = [.int .i64 (Pt.tc less s 0 x1 x2 x3), .int .i64 (Pt.tc less s 1 x1 x2 x3), .int .i64 (Pt.tc less s 2 x1 x2 x3)] from rfl,HTC.out];rfl),HR.out⟩,by rw [HR.out.pos,HM.out];omega⟩
          | (go_roundw
             case rel=>exact ⟨3,_,by omega,(by rw [show fil3 less s x1 x2 x3 3 = [.int .i64 (Pt.tc less s 0 x1 x2 x3), .int .i64 (Pt.tc less s 1 x1 x2 x3), .int .i64 (Pt.tc less s 2 x1 x2 x3)] from rfl,HTC.out];rfl),HR.out⟩
             case measure=>rw [HR.out.pos,HM.out];omega)
    · rw [show Z = [.int .i64 (Pt.tc less s 0 x1 x2 x3), .int .i64 (Pt.tc less s 1 x1 x2 x3), .int .i64 (Pt.tc less s 2 x1 x2 x3)] from hZ] at hR
      clear hZ hi
      have hnx : ∀ ty,(Instr.next (.pointer (some ⟨V8.heap.size + 1,0,none⟩)) true ty).run Tryd.prog wr = .ok (.tuple #[.bool false]) wr:=fun ty=>Lib.run_next_end_at wr (V8.heap.size + 1) ⟨#[121,122,120]⟩ 3 ty hR.it (by decide)
      have e0:=hR.rt.cell1 0 _ rfl
      have r0:=hR.rr.cell1 0 _ rfl
      have s0:=hR.rr.soft 0 _ rfl
      have e1:=hR.rt.cell1 1 _ rfl
      have r1:=hR.rr.cell1 1 _ rfl
      have s1:=hR.rr.soft 1 _ rfl
      have e2:=hR.rt.cell1 2 _ rfl
      have r2:=hR.rr.cell1 2 _ rfl
      have s2:=hR.rr.soft 2 _ rfl
      have HR:=Lib.hid hR
      clear hR
      go_wp2_with fail
      refine bodyPost_ret (results_cell_mid rfl _ _ _ (w.heap.size + 1) 0 [.int .i64 (Pt.tc less s 0 x1 x2 x3), .int .i64 (Pt.tc less s 1 x1 x2 x3), .int .i64 (Pt.tc less s 2 x1 x2 x3)] _ rfl (Row.over (D:=[.int .i64 (Pt.tc less s 0 x1 x2 x3), .int .i64 (Pt.tc less s 1 x1 x2 x3), .int .i64 (Pt.tc less s 2 x1 x2 x3)]) HR.out.rr rfl).range Tryd.underlying23 rfl (by kernel_rfl)) rfl ?_
      exact ⟨rfl,below_setCells (by omega) [.int .i64 (Pt.tc less s 0 x1 x2 x3), .int .i64 (Pt.tc less s 1 x1 x2 x3), .int .i64 (Pt.tc less s 2 x1 x2 x3)] 0 _ _ HR.out.bel⟩

end Go.Proofs.YtpapbbolefnkmaaDoor
