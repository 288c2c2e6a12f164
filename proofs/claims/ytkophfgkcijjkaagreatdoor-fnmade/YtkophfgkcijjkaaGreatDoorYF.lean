import Derived.Test.YtkophfgkcijjkaaGreatDoorYE
import Derived.Test.YtkophfgkcijjkaaGreatDoorZJ
set_option maxRecDepth 1000000
set_option maxHeartbeats 4000000
namespace Go.Proofs.YtkophfgkcijjkaaGreatDoor.Vp
open RowKit
def Ten (w:World)(g:Nat)(v0 v1 v2 v3 v4 v5 v6 v7 v8 v9:Value):Prop:=g<w.heap.size∧(w.cell? ⟨g,0,none⟩=some v0∧w.frozen? ⟨g,0,none⟩=false)∧(w.cell? ⟨g,1,none⟩=some v1∧w.frozen? ⟨g,1,none⟩=false)∧(w.cell? ⟨g,2,none⟩=some v2∧w.frozen? ⟨g,2,none⟩=false)∧(w.cell? ⟨g,3,none⟩=some v3∧w.frozen? ⟨g,3,none⟩=false)∧(w.cell? ⟨g,4,none⟩=some v4∧w.frozen? ⟨g,4,none⟩=false)∧(w.cell? ⟨g,5,none⟩=some v5∧w.frozen? ⟨g,5,none⟩=false)∧(w.cell? ⟨g,6,none⟩=some v6∧w.frozen? ⟨g,6,none⟩=false)∧(w.cell? ⟨g,7,none⟩=some v7∧w.frozen? ⟨g,7,none⟩=false)∧(w.cell? ⟨g,8,none⟩=some v8∧w.frozen? ⟨g,8,none⟩=false)∧(w.cell? ⟨g,9,none⟩=some v9∧w.frozen? ⟨g,9,none⟩=false)
theorem Ten.of_block {w w':World}{g:Nat}{v0 v1 v2 v3 v4 v5 v6 v7 v8 v9:Value}(h:Ten w g v0 v1 v2 v3 v4 v5 v6 v7 v8 v9)(hz:w.heap.size≤w'.heap.size)(hb:w'.heap[g]?=w.heap[g]?):Ten w' g v0 v1 v2 v3 v4 v5 v6 v7 v8 v9:=by
 obtain ⟨hl,⟨p0,q0⟩,⟨p1,q1⟩,⟨p2,q2⟩,⟨p3,q3⟩,⟨p4,q4⟩,⟨p5,q5⟩,⟨p6,q6⟩,⟨p7,q7⟩,⟨p8,q8⟩,p9,q9⟩:=h
 have hc:∀ o,w'.cell? ⟨g,o,none⟩=w.cell? ⟨g,o,none⟩:=fun o=>World.cell?_of_block (a:=⟨g,o,none⟩) hb
 have hf:∀ o,w'.frozen? ⟨g,o,none⟩=w.frozen? ⟨g,o,none⟩:=fun o=>World.frozen?_of_block (a:=⟨g,o,none⟩) hb
 exact ⟨ll hl hz,⟨(hc 0).trans p0,(hf 0).trans q0⟩,⟨(hc 1).trans p1,(hf 1).trans q1⟩,⟨(hc 2).trans p2,(hf 2).trans q2⟩,⟨(hc 3).trans p3,(hf 3).trans q3⟩,⟨(hc 4).trans p4,(hf 4).trans q4⟩,⟨(hc 5).trans p5,(hf 5).trans q5⟩,⟨(hc 6).trans p6,(hf 6).trans q6⟩,⟨(hc 7).trans p7,(hf 7).trans q7⟩,⟨(hc 8).trans p8,(hf 8).trans q8⟩,⟨(hc 9).trans p9,(hf 9).trans q9⟩⟩
theorem Ten.below {w w':World}{B g:Nat}{v0 v1 v2 v3 v4 v5 v6 v7 v8 v9:Value}(h:Ten w g v0 v1 v2 v3 v4 v5 v6 v7 v8 v9)(hb:Below B w w')(hg:g<B):Ten w' g v0 v1 v2 v3 v4 v5 v6 v7 v8 v9:=h.of_block hb.size (hb.block g hg)
theorem Ten.grown {w w':World}{g:Nat}{row:Option Nat}{v0 v1 v2 v3 v4 v5 v6 v7 v8 v9:Value}(h:Ten w g v0 v1 v2 v3 v4 v5 v6 v7 v8 v9)(hb:w.grownBy w' row)(hg:some g≠row):Ten w' g v0 v1 v2 v3 v4 v5 v6 v7 v8 v9:=h.of_block hb.size (hb.block g h.1 hg)
theorem Ten.al {w:World}{g:Nat}{v0 v1 v2 v3 v4 v5 v6 v7 v8 v9:Value}(h:Ten w g v0 v1 v2 v3 v4 v5 v6 v7 v8 v9)(o:Obj):Ten (w.alloc o) g v0 v1 v2 v3 v4 v5 v6 v7 v8 v9:=h.below ((Below.refl w.heap.size w).alloc lr o) h.1
theorem Ten.other {w:World}{g:Nat}{v0 v1 v2 v3 v4 v5 v6 v7 v8 v9:Value}(h:Ten w g v0 v1 v2 v3 v4 v5 v6 v7 v8 v9)(p:Addr)(u:Value)(hp:p.block≠g):Ten (w.setCell p u) g v0 v1 v2 v3 v4 v5 v6 v7 v8 v9:=h.of_block (by simp) (Below.heap_setCell w p u g (fun e=>hp e.symm))
theorem Ten.drew {w:World}{g:Nat}{v0 v1 v2 v3 v4 v5 v6 v7 v8 v9:Value}(h:Ten w g v0 v1 v2 v3 v4 v5 v6 v7 v8 v9):Ten w.drew g v0 v1 v2 v3 v4 v5 v6 v7 v8 v9:=h
theorem cz (w:World)(v0 v1 v2 v3 v4 v5 v6 v7 v8 v9:Value)(t:TypeId)(g:Nat)(hg:g=w.heap.size):Ten (w.alloc (.cells #[v0,v1,v2,v3,v4,v5,v6,v7,v8,v9] t)) g v0 v1 v2 v3 v4 v5 v6 v7 v8 v9:=by
 subst hg
 exact ⟨by simp,⟨by simp,by simp⟩,⟨by simp,by simp⟩,⟨by simp,by simp⟩,⟨by simp,by simp⟩,⟨by simp,by simp⟩,⟨by simp,by simp⟩,⟨by simp,by simp⟩,⟨by simp,by simp⟩,⟨by simp,by simp⟩,⟨by simp,by simp⟩⟩
theorem Ten.set0 {w:World}{g:Nat}{v0 v1 v2 v3 v4 v5 v6 v7 v8 v9:Value}(h:Ten w g v0 v1 v2 v3 v4 v5 v6 v7 v8 v9)(u:Value):Ten (w.setCell ⟨g,0,none⟩ u) g u v1 v2 v3 v4 v5 v6 v7 v8 v9:=by
 obtain ⟨hl,⟨p0,q0⟩,⟨p1,q1⟩,⟨p2,q2⟩,⟨p3,q3⟩,⟨p4,q4⟩,⟨p5,q5⟩,⟨p6,q6⟩,⟨p7,q7⟩,⟨p8,q8⟩,p9,q9⟩:=h
 exact ⟨by simpa using hl,⟨(World.cell?_setCell_same' _ _ _ (by rw [p0];rfl)),by simpa using q0⟩,⟨(World.cell?_setCell_other _ _ _ _ (by simp)).trans p1,by simpa using q1⟩,⟨(World.cell?_setCell_other _ _ _ _ (by simp)).trans p2,by simpa using q2⟩,⟨(World.cell?_setCell_other _ _ _ _ (by simp)).trans p3,by simpa using q3⟩,⟨(World.cell?_setCell_other _ _ _ _ (by simp)).trans p4,by simpa using q4⟩,⟨(World.cell?_setCell_other _ _ _ _ (by simp)).trans p5,by simpa using q5⟩,⟨(World.cell?_setCell_other _ _ _ _ (by simp)).trans p6,by simpa using q6⟩,⟨(World.cell?_setCell_other _ _ _ _ (by simp)).trans p7,by simpa using q7⟩,⟨(World.cell?_setCell_other _ _ _ _ (by simp)).trans p8,by simpa using q8⟩,⟨(World.cell?_setCell_other _ _ _ _ (by simp)).trans p9,by simpa using q9⟩⟩
theorem Ten.set1 {w:World}{g:Nat}{v0 v1 v2 v3 v4 v5 v6 v7 v8 v9:Value}(h:Ten w g v0 v1 v2 v3 v4 v5 v6 v7 v8 v9)(u:Value):Ten (w.setCell ⟨g,1,none⟩ u) g v0 u v2 v3 v4 v5 v6 v7 v8 v9:=by
 obtain ⟨hl,⟨p0,q0⟩,⟨p1,q1⟩,⟨p2,q2⟩,⟨p3,q3⟩,⟨p4,q4⟩,⟨p5,q5⟩,⟨p6,q6⟩,⟨p7,q7⟩,⟨p8,q8⟩,p9,q9⟩:=h
 exact ⟨by simpa using hl,⟨(World.cell?_setCell_other _ _ _ _ (by simp)).trans p0,by simpa using q0⟩,⟨(World.cell?_setCell_same' _ _ _ (by rw [p1];rfl)),by simpa using q1⟩,⟨(World.cell?_setCell_other _ _ _ _ (by simp)).trans p2,by simpa using q2⟩,⟨(World.cell?_setCell_other _ _ _ _ (by simp)).trans p3,by simpa using q3⟩,⟨(World.cell?_setCell_other _ _ _ _ (by simp)).trans p4,by simpa using q4⟩,⟨(World.cell?_setCell_other _ _ _ _ (by simp)).trans p5,by simpa using q5⟩,⟨(World.cell?_setCell_other _ _ _ _ (by simp)).trans p6,by simpa using q6⟩,⟨(World.cell?_setCell_other _ _ _ _ (by simp)).trans p7,by simpa using q7⟩,⟨(World.cell?_setCell_other _ _ _ _ (by simp)).trans p8,by simpa using q8⟩,⟨(World.cell?_setCell_other _ _ _ _ (by simp)).trans p9,by simpa using q9⟩⟩
theorem Ten.set2 {w:World}{g:Nat}{v0 v1 v2 v3 v4 v5 v6 v7 v8 v9:Value}(h:Ten w g v0 v1 v2 v3 v4 v5 v6 v7 v8 v9)(u:Value):Ten (w.setCell ⟨g,2,none⟩ u) g v0 v1 u v3 v4 v5 v6 v7 v8 v9:=by
 obtain ⟨hl,⟨p0,q0⟩,⟨p1,q1⟩,⟨p2,q2⟩,⟨p3,q3⟩,⟨p4,q4⟩,⟨p5,q5⟩,⟨p6,q6⟩,⟨p7,q7⟩,⟨p8,q8⟩,p9,q9⟩:=h
 exact ⟨by simpa using hl,⟨(World.cell?_setCell_other _ _ _ _ (by simp)).trans p0,by simpa using q0⟩,⟨(World.cell?_setCell_other _ _ _ _ (by simp)).trans p1,by simpa using q1⟩,⟨(World.cell?_setCell_same' _ _ _ (by rw [p2];rfl)),by simpa using q2⟩,⟨(World.cell?_setCell_other _ _ _ _ (by simp)).trans p3,by simpa using q3⟩,⟨(World.cell?_setCell_other _ _ _ _ (by simp)).trans p4,by simpa using q4⟩,⟨(World.cell?_setCell_other _ _ _ _ (by simp)).trans p5,by simpa using q5⟩,⟨(World.cell?_setCell_other _ _ _ _ (by simp)).trans p6,by simpa using q6⟩,⟨(World.cell?_setCell_other _ _ _ _ (by simp)).trans p7,by simpa using q7⟩,⟨(World.cell?_setCell_other _ _ _ _ (by simp)).trans p8,by simpa using q8⟩,⟨(World.cell?_setCell_other _ _ _ _ (by simp)).trans p9,by simpa using q9⟩⟩
theorem Ten.set3 {w:World}{g:Nat}{v0 v1 v2 v3 v4 v5 v6 v7 v8 v9:Value}(h:Ten w g v0 v1 v2 v3 v4 v5 v6 v7 v8 v9)(u:Value):Ten (w.setCell ⟨g,3,none⟩ u) g v0 v1 v2 u v4 v5 v6 v7 v8 v9:=by
 obtain ⟨hl,⟨p0,q0⟩,⟨p1,q1⟩,⟨p2,q2⟩,⟨p3,q3⟩,⟨p4,q4⟩,⟨p5,q5⟩,⟨p6,q6⟩,⟨p7,q7⟩,⟨p8,q8⟩,p9,q9⟩:=h
 exact ⟨by simpa using hl,⟨(World.cell?_setCell_other _ _ _ _ (by simp)).trans p0,by simpa using q0⟩,⟨(World.cell?_setCell_other _ _ _ _ (by simp)).trans p1,by simpa using q1⟩,⟨(World.cell?_setCell_other _ _ _ _ (by simp)).trans p2,by simpa using q2⟩,⟨(World.cell?_setCell_same' _ _ _ (by rw [p3];rfl)),by simpa using q3⟩,⟨(World.cell?_setCell_other _ _ _ _ (by simp)).trans p4,by simpa using q4⟩,⟨(World.cell?_setCell_other _ _ _ _ (by simp)).trans p5,by simpa using q5⟩,⟨(World.cell?_setCell_other _ _ _ _ (by simp)).trans p6,by simpa using q6⟩,⟨(World.cell?_setCell_other _ _ _ _ (by simp)).trans p7,by simpa using q7⟩,⟨(World.cell?_setCell_other _ _ _ _ (by simp)).trans p8,by simpa using q8⟩,⟨(World.cell?_setCell_other _ _ _ _ (by simp)).trans p9,by simpa using q9⟩⟩
theorem Ten.set4 {w:World}{g:Nat}{v0 v1 v2 v3 v4 v5 v6 v7 v8 v9:Value}(h:Ten w g v0 v1 v2 v3 v4 v5 v6 v7 v8 v9)(u:Value):Ten (w.setCell ⟨g,4,none⟩ u) g v0 v1 v2 v3 u v5 v6 v7 v8 v9:=by
 obtain ⟨hl,⟨p0,q0⟩,⟨p1,q1⟩,⟨p2,q2⟩,⟨p3,q3⟩,⟨p4,q4⟩,⟨p5,q5⟩,⟨p6,q6⟩,⟨p7,q7⟩,⟨p8,q8⟩,p9,q9⟩:=h
 exact ⟨by simpa using hl,⟨(World.cell?_setCell_other _ _ _ _ (by simp)).trans p0,by simpa using q0⟩,⟨(World.cell?_setCell_other _ _ _ _ (by simp)).trans p1,by simpa using q1⟩,⟨(World.cell?_setCell_other _ _ _ _ (by simp)).trans p2,by simpa using q2⟩,⟨(World.cell?_setCell_other _ _ _ _ (by simp)).trans p3,by simpa using q3⟩,⟨(World.cell?_setCell_same' _ _ _ (by rw [p4];rfl)),by simpa using q4⟩,⟨(World.cell?_setCell_other _ _ _ _ (by simp)).trans p5,by simpa using q5⟩,⟨(World.cell?_setCell_other _ _ _ _ (by simp)).trans p6,by simpa using q6⟩,⟨(World.cell?_setCell_other _ _ _ _ (by simp)).trans p7,by simpa using q7⟩,⟨(World.cell?_setCell_other _ _ _ _ (by simp)).trans p8,by simpa using q8⟩,⟨(World.cell?_setCell_other _ _ _ _ (by simp)).trans p9,by simpa using q9⟩⟩
theorem Ten.set5 {w:World}{g:Nat}{v0 v1 v2 v3 v4 v5 v6 v7 v8 v9:Value}(h:Ten w g v0 v1 v2 v3 v4 v5 v6 v7 v8 v9)(u:Value):Ten (w.setCell ⟨g,5,none⟩ u) g v0 v1 v2 v3 v4 u v6 v7 v8 v9:=by
 obtain ⟨hl,⟨p0,q0⟩,⟨p1,q1⟩,⟨p2,q2⟩,⟨p3,q3⟩,⟨p4,q4⟩,⟨p5,q5⟩,⟨p6,q6⟩,⟨p7,q7⟩,⟨p8,q8⟩,p9,q9⟩:=h
 exact ⟨by simpa using hl,⟨(World.cell?_setCell_other _ _ _ _ (by simp)).trans p0,by simpa using q0⟩,⟨(World.cell?_setCell_other _ _ _ _ (by simp)).trans p1,by simpa using q1⟩,⟨(World.cell?_setCell_other _ _ _ _ (by simp)).trans p2,by simpa using q2⟩,⟨(World.cell?_setCell_other _ _ _ _ (by simp)).trans p3,by simpa using q3⟩,⟨(World.cell?_setCell_other _ _ _ _ (by simp)).trans p4,by simpa using q4⟩,⟨(World.cell?_setCell_same' _ _ _ (by rw [p5];rfl)),by simpa using q5⟩,⟨(World.cell?_setCell_other _ _ _ _ (by simp)).trans p6,by simpa using q6⟩,⟨(World.cell?_setCell_other _ _ _ _ (by simp)).trans p7,by simpa using q7⟩,⟨(World.cell?_setCell_other _ _ _ _ (by simp)).trans p8,by simpa using q8⟩,⟨(World.cell?_setCell_other _ _ _ _ (by simp)).trans p9,by simpa using q9⟩⟩
theorem Ten.set6 {w:World}{g:Nat}{v0 v1 v2 v3 v4 v5 v6 v7 v8 v9:Value}(h:Ten w g v0 v1 v2 v3 v4 v5 v6 v7 v8 v9)(u:Value):Ten (w.setCell ⟨g,6,none⟩ u) g v0 v1 v2 v3 v4 v5 u v7 v8 v9:=by
 obtain ⟨hl,⟨p0,q0⟩,⟨p1,q1⟩,⟨p2,q2⟩,⟨p3,q3⟩,⟨p4,q4⟩,⟨p5,q5⟩,⟨p6,q6⟩,⟨p7,q7⟩,⟨p8,q8⟩,p9,q9⟩:=h
 exact ⟨by simpa using hl,⟨(World.cell?_setCell_other _ _ _ _ (by simp)).trans p0,by simpa using q0⟩,⟨(World.cell?_setCell_other _ _ _ _ (by simp)).trans p1,by simpa using q1⟩,⟨(World.cell?_setCell_other _ _ _ _ (by simp)).trans p2,by simpa using q2⟩,⟨(World.cell?_setCell_other _ _ _ _ (by simp)).trans p3,by simpa using q3⟩,⟨(World.cell?_setCell_other _ _ _ _ (by simp)).trans p4,by simpa using q4⟩,⟨(World.cell?_setCell_other _ _ _ _ (by simp)).trans p5,by simpa using q5⟩,⟨(World.cell?_setCell_same' _ _ _ (by rw [p6];rfl)),by simpa using q6⟩,⟨(World.cell?_setCell_other _ _ _ _ (by simp)).trans p7,by simpa using q7⟩,⟨(World.cell?_setCell_other _ _ _ _ (by simp)).trans p8,by simpa using q8⟩,⟨(World.cell?_setCell_other _ _ _ _ (by simp)).trans p9,by simpa using q9⟩⟩
theorem Ten.set7 {w:World}{g:Nat}{v0 v1 v2 v3 v4 v5 v6 v7 v8 v9:Value}(h:Ten w g v0 v1 v2 v3 v4 v5 v6 v7 v8 v9)(u:Value):Ten (w.setCell ⟨g,7,none⟩ u) g v0 v1 v2 v3 v4 v5 v6 u v8 v9:=by
 obtain ⟨hl,⟨p0,q0⟩,⟨p1,q1⟩,⟨p2,q2⟩,⟨p3,q3⟩,⟨p4,q4⟩,⟨p5,q5⟩,⟨p6,q6⟩,⟨p7,q7⟩,⟨p8,q8⟩,p9,q9⟩:=h
 exact ⟨by simpa using hl,⟨(World.cell?_setCell_other _ _ _ _ (by simp)).trans p0,by simpa using q0⟩,⟨(World.cell?_setCell_other _ _ _ _ (by simp)).trans p1,by simpa using q1⟩,⟨(World.cell?_setCell_other _ _ _ _ (by simp)).trans p2,by simpa using q2⟩,⟨(World.cell?_setCell_other _ _ _ _ (by simp)).trans p3,by simpa using q3⟩,⟨(World.cell?_setCell_other _ _ _ _ (by simp)).trans p4,by simpa using q4⟩,⟨(World.cell?_setCell_other _ _ _ _ (by simp)).trans p5,by simpa using q5⟩,⟨(World.cell?_setCell_other _ _ _ _ (by simp)).trans p6,by simpa using q6⟩,⟨(World.cell?_setCell_same' _ _ _ (by rw [p7];rfl)),by simpa using q7⟩,⟨(World.cell?_setCell_other _ _ _ _ (by simp)).trans p8,by simpa using q8⟩,⟨(World.cell?_setCell_other _ _ _ _ (by simp)).trans p9,by simpa using q9⟩⟩
theorem Ten.set8 {w:World}{g:Nat}{v0 v1 v2 v3 v4 v5 v6 v7 v8 v9:Value}(h:Ten w g v0 v1 v2 v3 v4 v5 v6 v7 v8 v9)(u:Value):Ten (w.setCell ⟨g,8,none⟩ u) g v0 v1 v2 v3 v4 v5 v6 v7 u v9:=by
 obtain ⟨hl,⟨p0,q0⟩,⟨p1,q1⟩,⟨p2,q2⟩,⟨p3,q3⟩,⟨p4,q4⟩,⟨p5,q5⟩,⟨p6,q6⟩,⟨p7,q7⟩,⟨p8,q8⟩,p9,q9⟩:=h
 exact ⟨by simpa using hl,⟨(World.cell?_setCell_other _ _ _ _ (by simp)).trans p0,by simpa using q0⟩,⟨(World.cell?_setCell_other _ _ _ _ (by simp)).trans p1,by simpa using q1⟩,⟨(World.cell?_setCell_other _ _ _ _ (by simp)).trans p2,by simpa using q2⟩,⟨(World.cell?_setCell_other _ _ _ _ (by simp)).trans p3,by simpa using q3⟩,⟨(World.cell?_setCell_other _ _ _ _ (by simp)).trans p4,by simpa using q4⟩,⟨(World.cell?_setCell_other _ _ _ _ (by simp)).trans p5,by simpa using q5⟩,⟨(World.cell?_setCell_other _ _ _ _ (by simp)).trans p6,by simpa using q6⟩,⟨(World.cell?_setCell_other _ _ _ _ (by simp)).trans p7,by simpa using q7⟩,⟨(World.cell?_setCell_same' _ _ _ (by rw [p8];rfl)),by simpa using q8⟩,⟨(World.cell?_setCell_other _ _ _ _ (by simp)).trans p9,by simpa using q9⟩⟩
theorem Ten.set9 {w:World}{g:Nat}{v0 v1 v2 v3 v4 v5 v6 v7 v8 v9:Value}(h:Ten w g v0 v1 v2 v3 v4 v5 v6 v7 v8 v9)(u:Value):Ten (w.setCell ⟨g,9,none⟩ u) g v0 v1 v2 v3 v4 v5 v6 v7 v8 u:=by
 obtain ⟨hl,⟨p0,q0⟩,⟨p1,q1⟩,⟨p2,q2⟩,⟨p3,q3⟩,⟨p4,q4⟩,⟨p5,q5⟩,⟨p6,q6⟩,⟨p7,q7⟩,⟨p8,q8⟩,p9,q9⟩:=h
 exact ⟨by simpa using hl,⟨(World.cell?_setCell_other _ _ _ _ (by simp)).trans p0,by simpa using q0⟩,⟨(World.cell?_setCell_other _ _ _ _ (by simp)).trans p1,by simpa using q1⟩,⟨(World.cell?_setCell_other _ _ _ _ (by simp)).trans p2,by simpa using q2⟩,⟨(World.cell?_setCell_other _ _ _ _ (by simp)).trans p3,by simpa using q3⟩,⟨(World.cell?_setCell_other _ _ _ _ (by simp)).trans p4,by simpa using q4⟩,⟨(World.cell?_setCell_other _ _ _ _ (by simp)).trans p5,by simpa using q5⟩,⟨(World.cell?_setCell_other _ _ _ _ (by simp)).trans p6,by simpa using q6⟩,⟨(World.cell?_setCell_other _ _ _ _ (by simp)).trans p7,by simpa using q7⟩,⟨(World.cell?_setCell_other _ _ _ _ (by simp)).trans p8,by simpa using q8⟩,⟨(World.cell?_setCell_same' _ _ _ (by rw [p9];rfl)),by simpa using q9⟩⟩
theorem iV (w:World)(cs:Array Value)(ty:TypeId)(R Z:Obj)(j:Nat)(v:Value)(hv:cs[j]?=some v):(((w.alloc (.cells cs ty)).alloc R).alloc Z).cell? ⟨w.heap.size,j,none⟩=some v:=by
 rw [(((Below.refl (w.alloc (.cells cs ty)).heap.size _).alloc lr R).alloc (by simp) Z).cell (p:=⟨w.heap.size,j,none⟩) (by simp)]
 simp [hv]
abbrev SO:=(Nat × Nat × Nat × List ByteArray) ⊕ (Int × ByteArray × Nat) ⊕ (Bool × ByteArray × Nat)
abbrev strs (s:List ByteArray):List Value:=s.reverse.map Value.string
def SoIs (w:World)(base:Nat)(v:Value):SO→Prop
 | .inl (p,st,l,s)=>∃ a cap,v=ce p (.slice a s.length cap) st l false 0 ⟨#[]⟩ false ⟨#[]⟩ false∧w.ownsRow base 9 1 (.slice a s.length cap) s.length (strs s)
 | .inr (.inl (c,x,st))=>∃ (at_:Int) (a:Option Addr) (n cap:Nat) (lk:Int),v=ce at_ (.slice a n cap) st lk true c x false ⟨#[]⟩ false
 | .inr (.inr (ask,nm,st))=>∃ (at_:Int) (a:Option Addr) (n cap:Nat) (lk:Int),v=ce at_ (.slice a n cap) st lk false 0 ⟨#[]⟩ ask nm true
theorem SoIs.kept {w w':World}{base base':Nat}{v:Value}{r:SO}(h:SoIs w base v r)(hb:Below w.heap.size w w')(hl:base'≤base):SoIs w' base' v r:=by
 rcases r with ⟨p,st,l,s⟩ | ⟨c,x,st⟩ | ⟨ask,nm,st⟩
 ·obtain ⟨a,cap,e,ho⟩:=h
  exact ⟨a,cap,e,aT (own_below ho hb lr) hl⟩
 ·exact h
 ·exact h
theorem kB {w:World}{base:Nat}{e:TypeId}{g k n cap:Nat}{s0:ByteArray}{i:Int}{xs:List Value}(h:w.ownsRow base e 1 (.slice (some ⟨g,0,none⟩) n cap) n xs)(hx:xs[0]?=some (.string s0))(hk:w.cell? ⟨k,0,none⟩=some (.int .i64 i)):k≠g:=by
 rintro rfl
 have:=h.cells (g:=k) rfl 0 _ hx
 simp [Addr.add] at this
 rw [hk] at this
 simp at this
theorem dY (x:ByteArray)(s:List ByteArray):strs (x :: s)=strs s++[.string x]:=by simp [strs]
theorem pD {x:ByteArray}{s:List ByteArray}:∃ s0,(strs s++[Value.string x])[0]?=some (.string s0):=by
 rw [← dY]
 simp only [strs,List.getElem?_map,Option.map_eq_some_iff]
 have h:0<(x :: s).reverse.length:=by simp
 exact ⟨_,_,List.getElem?_eq_getElem h,rfl⟩
theorem cJ {w:World}{base g n cap:Nat}{e:TypeId}{xs:List Value}(h:w.ownsRow base e 1 (.slice (some ⟨g,0,none⟩) n cap) n xs){k:Nat}(hk:k≠g)(u:Value)(j:Nat):(w.setCell ⟨k,j,none⟩ u).ownsRow base e 1 (.slice (some ⟨g,0,none⟩) n cap) n xs :=
 ownsRow_setCell_other h (by simp [Value.ownBlock];exact fun e=>hk e.symm) u
theorem nT {w:World}{base g n cap:Nat}{e:TypeId}{xs:List Value}(h:w.ownsRow base e 1 (.slice (some ⟨g,0,none⟩) n cap) n xs){k:Nat}(hk:k≠g)(v0 v1 v2 v3 v4 v5 v6 v7 v8 v9:Value):World.ownsRow ((((((((((w.setCell ⟨k,0,none⟩ v0).setCell ⟨k,1,none⟩ v1).setCell ⟨k,2,none⟩ v2).setCell ⟨k,3,none⟩ v3).setCell ⟨k,4,none⟩ v4).setCell ⟨k,5,none⟩ v5).setCell ⟨k,6,none⟩ v6).setCell ⟨k,7,none⟩ v7).setCell ⟨k,8,none⟩ v8).setCell ⟨k,9,none⟩ v9) base e 1 (.slice (some ⟨g,0,none⟩) n cap) n xs :=
 cJ (cJ (cJ (cJ (cJ (cJ (cJ (cJ (cJ (cJ h hk v0 0) hk v1 1) hk v2 2) hk v3 3) hk v4 4) hk v5 5) hk v6 6) hk v7 7) hk v8 8) hk v9 9
def gu (y:Nat→aw)(n:Nat)(a:Bool)(nm:ByteArray)(s:List ByteArray)(p st l:Nat):SO :=
 if n≤l then .inr (.inr (a,nm,st)) else if a=false then .inl (p,st,(l+1),(cY (y l).has :: s)) else if (y l).has=false then .inr (.inl (4,nm,st))
 else if (y l).code=0 then .inl (p,st,(l+1),((y l).text :: s)) else .inr (.inl (5,nm,st))
theorem sF (op:Nat)(t:ByteArray)(k:Int)(p st l:Nat)(a:Option Addr)(cap:Nat)(s:List ByteArray)(nm pl:ByteArray)(b2 o2 n cap2 base:Nat)(y:Nat→aw)(w:World)
  (hY:RowReply w b2 o2 n y) (hO:w.ownsRow base 9 1 (.slice a s.length cap) s.length (strs s)) (hb:base≤w.heap.size) (hn:au nm=false) :
  Calls Tryz.prog 257 #[.agg #[.int .i64 op,.string t,.int .i64 k],ce p (.slice a s.length cap) st l false 0 ⟨#[]⟩ false ⟨#[]⟩ false,.string nm,.string pl,.slice (some ⟨b2,o2,none⟩) n cap2] w fun e w'=>∃ v,e=.returned v∧SoIs w' base v (.inr (.inl (2,pl,st)))∧Below base w w':=by
 have HY:=ae hY
 have HO:=ae hO
 have HN:=ae hn
 clear hY hO hn
 have A0:=ae ((((Below.refl w.heap.size w).alloc lr (.cells #[.int .i64 op,.string t,.int .i64 k] 176)).alloc (by simp) (.cells #[.int .i64 p,.slice a s.length cap,.int .i64 st,.int .i64 l,.bool false,.int .i64 0,.string ⟨#[]⟩,.bool false,.string ⟨#[]⟩,.bool false] 297)).alloc (by simp<;>omega) (.cells #[.int .i64 0,.slice none 0 0,.int .i64 0,.int .i64 0,.bool false,.int .i64 0,.string ⟨#[]⟩,.bool false,.string ⟨#[]⟩,.bool false] 297))
 have R0:=ae ((cz (w.alloc (.cells #[.int .i64 op,.string t,.int .i64 k] 176)) (.int .i64 p) (.slice a s.length cap) (.int .i64 st) (.int .i64 l) (.bool false) (.int .i64 0) (.string ⟨#[]⟩) (.bool false) (.string ⟨#[]⟩) (.bool false) 297 (w.heap.size+1) (by simp)).al (.cells #[.int .i64 0,.slice none 0 0,.int .i64 0,.int .i64 0,.bool false,.int .i64 0,.string ⟨#[]⟩,.bool false,.string ⟨#[]⟩,.bool false] 297))
 have Z0:=ae (cz ((w.alloc (.cells #[.int .i64 op,.string t,.int .i64 k] 176)).alloc (.cells #[.int .i64 p,.slice a s.length cap,.int .i64 st,.int .i64 l,.bool false,.int .i64 0,.string ⟨#[]⟩,.bool false,.string ⟨#[]⟩,.bool false] 297)) (.int .i64 0) (.slice none 0 0) (.int .i64 0) (.int .i64 0) (.bool false) (.int .i64 0) (.string ⟨#[]⟩) (.bool false) (.string ⟨#[]⟩) (.bool false) 297 (w.heap.size+1+1) (by simp))
 go_enter Tryz.func257,Tryz.ntmps257
 go_wp2_with fail
 refine (bN nm _).mono ?_
 rintro e w1 ⟨rfl,hB1⟩
 rw [HN.out]
 have R1:=ae (R0.out.below hB1 (by simp<;>omega))
 have Z1:=ae (Z0.out.below hB1 (by simp))
 have B1:=ae (A0.out.trans (hB1.mono (by simp<;>omega)))
 have i0:w1.cell? ⟨w.heap.size,0,none⟩=some (.int .i64 op):=(hB1.cell (p:=⟨w.heap.size,0,none⟩) (by simp<;>omega)).trans (iV _ _ _ _ _ _ _ rfl)
 have O1:=ae (own_below HO.out B1.out lr)
 have hz1:w.heap.size+1+1<w1.heap.size:=Z1.out.1
 clear hB1 A0 R0 Z0 HO HN
 obtain ⟨chl,⟨c0,f0⟩,⟨c1,f1⟩,⟨c2,f2⟩,⟨c3,f3⟩,⟨c4,f4⟩,⟨c5,f5⟩,⟨c6,f6⟩,⟨c7,f7⟩,⟨c8,f8⟩,c9,f9⟩:=R1.out
 go_wp2_with fail
 refine (dd _ _ _ _ _ _ _ _ _ _ _ _ _ _ _).mono ?_
 rintro e w2 ⟨rfl,hB2⟩
 have ZE:=ae (Z1.out.below hB2 Z1.out.1)
 have B2:=ae (B1.out.trans (hB2.mono B1.out.size))
 clear hB2
 clear chl c0 f0 c1 f1 c2 f2 c3 f3 c4 f4 c5 f5 c6 f6 c7 f7 c8 f8 c9 f9
 obtain ⟨zhl,⟨z0,y0⟩,⟨z1,y1⟩,⟨z2,y2⟩,⟨z3,y3⟩,⟨z4,y4⟩,⟨z5,y5⟩,⟨z6,y6⟩,⟨z7,y7⟩,⟨z8,y8⟩,z9,y9⟩:=ZE.out
 go_wp2
 refine bodyPost_ret (v:=ce p (.slice a s.length cap) st l true 2 pl false ⟨#[]⟩ false) (by simp [results,Tryz.results257,go_sem,z0,z1,z2,z3,z4,z5,z6,z7,z8,z9]) rfl ⟨_,rfl,⟨_,_,_,_,_,rfl⟩,cI (B2.out.mono hb) (by omega) _ _ _ _ _ _ _ _ _ _⟩
theorem qZ (op:Nat)(t:ByteArray)(k:Int)(p st l:Nat)(a:Option Addr)(cap:Nat)(s:List ByteArray)(nm pl:ByteArray)(b2 o2 n cap2 base:Nat)(y:Nat→aw)(w:World)
  (hY:RowReply w b2 o2 n y) (hO:w.ownsRow base 9 1 (.slice a s.length cap) s.length (strs s)) (hb:base≤w.heap.size) (hn:au nm=true) (hl:((l:Int) == 200)=true) :
  Calls Tryz.prog 257 #[.agg #[.int .i64 op,.string t,.int .i64 k],ce p (.slice a s.length cap) st l false 0 ⟨#[]⟩ false ⟨#[]⟩ false,.string nm,.string pl,.slice (some ⟨b2,o2,none⟩) n cap2] w fun e w'=>∃ v,e=.returned v∧SoIs w' base v (.inr (.inl (3,⟨#[]⟩,st)))∧Below base w w':=by
 have HY:=ae hY
 have HO:=ae hO
 have HN:=ae hn
 clear hY hO hn
 have A0:=ae ((((Below.refl w.heap.size w).alloc lr (.cells #[.int .i64 op,.string t,.int .i64 k] 176)).alloc (by simp) (.cells #[.int .i64 p,.slice a s.length cap,.int .i64 st,.int .i64 l,.bool false,.int .i64 0,.string ⟨#[]⟩,.bool false,.string ⟨#[]⟩,.bool false] 297)).alloc (by simp<;>omega) (.cells #[.int .i64 0,.slice none 0 0,.int .i64 0,.int .i64 0,.bool false,.int .i64 0,.string ⟨#[]⟩,.bool false,.string ⟨#[]⟩,.bool false] 297))
 have R0:=ae ((cz (w.alloc (.cells #[.int .i64 op,.string t,.int .i64 k] 176)) (.int .i64 p) (.slice a s.length cap) (.int .i64 st) (.int .i64 l) (.bool false) (.int .i64 0) (.string ⟨#[]⟩) (.bool false) (.string ⟨#[]⟩) (.bool false) 297 (w.heap.size+1) (by simp)).al (.cells #[.int .i64 0,.slice none 0 0,.int .i64 0,.int .i64 0,.bool false,.int .i64 0,.string ⟨#[]⟩,.bool false,.string ⟨#[]⟩,.bool false] 297))
 have Z0:=ae (cz ((w.alloc (.cells #[.int .i64 op,.string t,.int .i64 k] 176)).alloc (.cells #[.int .i64 p,.slice a s.length cap,.int .i64 st,.int .i64 l,.bool false,.int .i64 0,.string ⟨#[]⟩,.bool false,.string ⟨#[]⟩,.bool false] 297)) (.int .i64 0) (.slice none 0 0) (.int .i64 0) (.int .i64 0) (.bool false) (.int .i64 0) (.string ⟨#[]⟩) (.bool false) (.string ⟨#[]⟩) (.bool false) 297 (w.heap.size+1+1) (by simp))
 go_enter Tryz.func257,Tryz.ntmps257
 go_wp2_with fail
 refine (bN nm _).mono ?_
 rintro e w1 ⟨rfl,hB1⟩
 rw [HN.out]
 have R1:=ae (R0.out.below hB1 (by simp<;>omega))
 have Z1:=ae (Z0.out.below hB1 (by simp))
 have B1:=ae (A0.out.trans (hB1.mono (by simp<;>omega)))
 have i0:w1.cell? ⟨w.heap.size,0,none⟩=some (.int .i64 op):=(hB1.cell (p:=⟨w.heap.size,0,none⟩) (by simp<;>omega)).trans (iV _ _ _ _ _ _ _ rfl)
 have O1:=ae (own_below HO.out B1.out lr)
 have hz1:w.heap.size+1+1<w1.heap.size:=Z1.out.1
 clear hB1 A0 R0 Z0 HO HN
 obtain ⟨chl,⟨c0,f0⟩,⟨c1,f1⟩,⟨c2,f2⟩,⟨c3,f3⟩,⟨c4,f4⟩,⟨c5,f5⟩,⟨c6,f6⟩,⟨c7,f7⟩,⟨c8,f8⟩,c9,f9⟩:=R1.out
 go_wp2_with fail
 refine (dd _ _ _ _ _ _ _ _ _ _ _ _ _ _ _).mono ?_
 rintro e w2 ⟨rfl,hB2⟩
 have ZE:=ae (Z1.out.below hB2 Z1.out.1)
 have B2:=ae (B1.out.trans (hB2.mono B1.out.size))
 clear hB2
 clear chl c0 f0 c1 f1 c2 f2 c3 f3 c4 f4 c5 f5 c6 f6 c7 f7 c8 f8 c9 f9
 obtain ⟨zhl,⟨z0,y0⟩,⟨z1,y1⟩,⟨z2,y2⟩,⟨z3,y3⟩,⟨z4,y4⟩,⟨z5,y5⟩,⟨z6,y6⟩,⟨z7,y7⟩,⟨z8,y8⟩,z9,y9⟩:=ZE.out
 go_wp2
 refine bodyPost_ret (v:=ce p (.slice a s.length cap) st l true 3 ⟨#[]⟩ false ⟨#[]⟩ false) (by simp [results,Tryz.results257,go_sem,z0,z1,z2,z3,z4,z5,z6,z7,z8,z9]) rfl ⟨_,rfl,⟨_,_,_,_,_,rfl⟩,cI (B2.out.mono hb) (by omega) _ _ _ _ _ _ _ _ _ _⟩
theorem sG (op:Nat)(t:ByteArray)(k:Int)(p st l:Nat)(a:Option Addr)(cap:Nat)(s:List ByteArray)(nm pl:ByteArray)(b2 o2 n cap2 base:Nat)(y:Nat→aw)(w:World)
  (hY:RowReply w b2 o2 n y) (hO:w.ownsRow base 9 1 (.slice a s.length cap) s.length (strs s)) (hb:base≤w.heap.size) (hn:au nm=true) (hl:((l:Int) == 200)=false) (hw:(n:Int)≤l) :
  Calls Tryz.prog 257 #[.agg #[.int .i64 op,.string t,.int .i64 k],ce p (.slice a s.length cap) st l false 0 ⟨#[]⟩ false ⟨#[]⟩ false,.string nm,.string pl,.slice (some ⟨b2,o2,none⟩) n cap2] w fun e w'=>∃ v,e=.returned v∧SoIs w' base v (.inr (.inr (((op:Int) == 12),nm,st)))∧Below base w w':=by
 have HY:=ae hY
 have HO:=ae hO
 have HN:=ae hn
 clear hY hO hn
 have A0:=ae ((((Below.refl w.heap.size w).alloc lr (.cells #[.int .i64 op,.string t,.int .i64 k] 176)).alloc (by simp) (.cells #[.int .i64 p,.slice a s.length cap,.int .i64 st,.int .i64 l,.bool false,.int .i64 0,.string ⟨#[]⟩,.bool false,.string ⟨#[]⟩,.bool false] 297)).alloc (by simp<;>omega) (.cells #[.int .i64 0,.slice none 0 0,.int .i64 0,.int .i64 0,.bool false,.int .i64 0,.string ⟨#[]⟩,.bool false,.string ⟨#[]⟩,.bool false] 297))
 have R0:=ae ((cz (w.alloc (.cells #[.int .i64 op,.string t,.int .i64 k] 176)) (.int .i64 p) (.slice a s.length cap) (.int .i64 st) (.int .i64 l) (.bool false) (.int .i64 0) (.string ⟨#[]⟩) (.bool false) (.string ⟨#[]⟩) (.bool false) 297 (w.heap.size+1) (by simp)).al (.cells #[.int .i64 0,.slice none 0 0,.int .i64 0,.int .i64 0,.bool false,.int .i64 0,.string ⟨#[]⟩,.bool false,.string ⟨#[]⟩,.bool false] 297))
 have Z0:=ae (cz ((w.alloc (.cells #[.int .i64 op,.string t,.int .i64 k] 176)).alloc (.cells #[.int .i64 p,.slice a s.length cap,.int .i64 st,.int .i64 l,.bool false,.int .i64 0,.string ⟨#[]⟩,.bool false,.string ⟨#[]⟩,.bool false] 297)) (.int .i64 0) (.slice none 0 0) (.int .i64 0) (.int .i64 0) (.bool false) (.int .i64 0) (.string ⟨#[]⟩) (.bool false) (.string ⟨#[]⟩) (.bool false) 297 (w.heap.size+1+1) (by simp))
 go_enter Tryz.func257,Tryz.ntmps257
 go_wp2_with fail
 refine (bN nm _).mono ?_
 rintro e w1 ⟨rfl,hB1⟩
 rw [HN.out]
 have R1:=ae (R0.out.below hB1 (by simp<;>omega))
 have Z1:=ae (Z0.out.below hB1 (by simp))
 have B1:=ae (A0.out.trans (hB1.mono (by simp<;>omega)))
 have i0:w1.cell? ⟨w.heap.size,0,none⟩=some (.int .i64 op):=(hB1.cell (p:=⟨w.heap.size,0,none⟩) (by simp<;>omega)).trans (iV _ _ _ _ _ _ _ rfl)
 have O1:=ae (own_below HO.out B1.out lr)
 have hz1:w.heap.size+1+1<w1.heap.size:=Z1.out.1
 clear hB1 A0 R0 Z0 HO HN
 obtain ⟨chl,⟨c0,f0⟩,⟨c1,f1⟩,⟨c2,f2⟩,⟨c3,f3⟩,⟨c4,f4⟩,⟨c5,f5⟩,⟨c6,f6⟩,⟨c7,f7⟩,⟨c8,f8⟩,c9,f9⟩:=R1.out
 have ZE:=ae (((Z1.out.other ⟨w.heap.size+1,9,none⟩ (.bool true) (by simp)).other ⟨w.heap.size+1,7,none⟩ (.bool ((op:Int) == 12)) (by simp)).other ⟨w.heap.size+1,8,none⟩ (.string nm) (by simp))
 have B2:=ae (((B1.out.setCell (p:=⟨w.heap.size+1,9,none⟩) (by simp) (.bool true)).setCell (p:=⟨w.heap.size+1,7,none⟩) (by simp) (.bool ((op:Int) == 12))).setCell (p:=⟨w.heap.size+1,8,none⟩) (by simp) (.string nm))
 obtain ⟨zhl,⟨z0,y0⟩,⟨z1,y1⟩,⟨z2,y2⟩,⟨z3,y3⟩,⟨z4,y4⟩,⟨z5,y5⟩,⟨z6,y6⟩,⟨z7,y7⟩,⟨z8,y8⟩,z9,y9⟩:=ZE.out
 go_wp2
 refine bodyPost_ret (v:=ce p (.slice a s.length cap) st l false 0 ⟨#[]⟩ ((op:Int) == 12) nm true) (by simp [results,Tryz.results257,go_sem,z0,z1,z2,z3,z4,z5,z6,z7,z8,z9]) rfl ⟨_,rfl,⟨_,_,_,_,_,rfl⟩,cI (B2.out.mono hb) (by omega) _ _ _ _ _ _ _ _ _ _⟩
theorem sH (op:Nat)(t:ByteArray)(k:Int)(p st l:Nat)(a:Option Addr)(cap:Nat)(s:List ByteArray)(nm pl:ByteArray)(b2 o2 n cap2 base:Nat)(y:Nat→aw)(w:World)
  (hY:RowReply w b2 o2 n y) (hO:w.ownsRow base 9 1 (.slice a s.length cap) s.length (strs s)) (hb:base≤w.heap.size) (hn:au nm=true) (hl:((l:Int) == 200)=false) (hl2:l≤200) (hw:l<n) (hop:((op:Int) == 13)=false) (hh:(y l).has=false) :
  Calls Tryz.prog 257 #[.agg #[.int .i64 op,.string t,.int .i64 k],ce p (.slice a s.length cap) st l false 0 ⟨#[]⟩ false ⟨#[]⟩ false,.string nm,.string pl,.slice (some ⟨b2,o2,none⟩) n cap2] w fun e w'=>∃ v,e=.returned v∧SoIs w' base v (.inr (.inl (4,nm,st)))∧Below base w w':=by
 have HY:=ae hY
 have HO:=ae hO
 have HN:=ae hn
 have HO0:=ae hO
 clear hY hO hn
 have A0:=ae ((((Below.refl w.heap.size w).alloc lr (.cells #[.int .i64 op,.string t,.int .i64 k] 176)).alloc (by simp) (.cells #[.int .i64 p,.slice a s.length cap,.int .i64 st,.int .i64 l,.bool false,.int .i64 0,.string ⟨#[]⟩,.bool false,.string ⟨#[]⟩,.bool false] 297)).alloc (by simp<;>omega) (.cells #[.int .i64 0,.slice none 0 0,.int .i64 0,.int .i64 0,.bool false,.int .i64 0,.string ⟨#[]⟩,.bool false,.string ⟨#[]⟩,.bool false] 297))
 have R0:=ae ((cz (w.alloc (.cells #[.int .i64 op,.string t,.int .i64 k] 176)) (.int .i64 p) (.slice a s.length cap) (.int .i64 st) (.int .i64 l) (.bool false) (.int .i64 0) (.string ⟨#[]⟩) (.bool false) (.string ⟨#[]⟩) (.bool false) 297 (w.heap.size+1) (by simp)).al (.cells #[.int .i64 0,.slice none 0 0,.int .i64 0,.int .i64 0,.bool false,.int .i64 0,.string ⟨#[]⟩,.bool false,.string ⟨#[]⟩,.bool false] 297))
 have Z0:=ae (cz ((w.alloc (.cells #[.int .i64 op,.string t,.int .i64 k] 176)).alloc (.cells #[.int .i64 p,.slice a s.length cap,.int .i64 st,.int .i64 l,.bool false,.int .i64 0,.string ⟨#[]⟩,.bool false,.string ⟨#[]⟩,.bool false] 297)) (.int .i64 0) (.slice none 0 0) (.int .i64 0) (.int .i64 0) (.bool false) (.int .i64 0) (.string ⟨#[]⟩) (.bool false) (.string ⟨#[]⟩) (.bool false) 297 (w.heap.size+1+1) (by simp))
 go_enter Tryz.func257,Tryz.ntmps257
 go_wp2_with fail
 refine (bN nm _).mono ?_
 rintro e w1 ⟨rfl,hB1⟩
 rw [HN.out]
 have R1:=ae (R0.out.below hB1 (by simp<;>omega))
 have Z1:=ae (Z0.out.below hB1 (by simp))
 have B1:=ae (A0.out.trans (hB1.mono (by simp<;>omega)))
 have i0:w1.cell? ⟨w.heap.size,0,none⟩=some (.int .i64 op):=(hB1.cell (p:=⟨w.heap.size,0,none⟩) (by simp<;>omega)).trans (iV _ _ _ _ _ _ _ rfl)
 have O1:=ae (own_below HO.out B1.out lr)
 have hz1:w.heap.size+1+1<w1.heap.size:=Z1.out.1
 clear hB1 A0 R0 Z0 HO HN
 obtain ⟨d0,d1,d2⟩:=(HY.out.below B1.out lr).2 l (by omega)
 rw [hh] at d0
 have hln:(l:Int)<n:=by omega
 have hz0:w.heap.size<w1.heap.size:=by omega
 have hz01:w.heap.size+1<w1.heap.size:=by omega
 have R2:=ae ((R1.out.set3 (.int .i64 ((l:Int)+1))).al (.cells #[.bool false,.int .i64 (y l).code,.string (y l).text] 75))
 have Z2:=ae ((Z1.out.other ⟨w.heap.size+1,3,none⟩ (.int .i64 ((l:Int)+1)) (by simp)).al (.cells #[.bool false,.int .i64 (y l).code,.string (y l).text] 75))
 have hne:∀ k,w.heap.size≤k→Value.ownBlock (.slice a s.length cap)≠some k:=fun k hk e=>by have:=(HO0.out.lt k e).2;omega
 have O2:=ae ((ownsRow_setCell_other O1.out (a:=⟨w.heap.size+1,3,none⟩) (hne _ (by simp)) (.int .i64 ((l:Int)+1))).alloc (.cells #[.bool false,.int .i64 (y l).code,.string (y l).text] 75))
 have B2:=ae ((B1.out.setCell (p:=⟨w.heap.size+1,3,none⟩) (by simp) (.int .i64 ((l:Int)+1))).alloc (by have:=B1.out.size;simpa using this) (.cells #[.bool false,.int .i64 (y l).code,.string (y l).text] 75))
 have HNE:=ae hne
 clear hne
 obtain ⟨chl,⟨c0,f0⟩,⟨c1,f1⟩,⟨c2,f2⟩,⟨c3,f3⟩,⟨c4,f4⟩,⟨c5,f5⟩,⟨c6,f6⟩,⟨c7,f7⟩,⟨c8,f8⟩,c9,f9⟩:=R1.out
 go_wp2_with fail
 refine (dd _ _ _ _ _ _ _ _ _ _ _ _ _ _ _).mono ?_
 rintro e w2 ⟨rfl,hB2⟩
 have ZE:=ae (Z2.out.below hB2 Z2.out.1)
 have B3:=ae (B2.out.trans (hB2.mono B2.out.size))
 clear hB2
 clear chl c0 f0 c1 f1 c2 f2 c3 f3 c4 f4 c5 f5 c6 f6 c7 f7 c8 f8 c9 f9
 obtain ⟨zhl,⟨z0,y0⟩,⟨z1,y1⟩,⟨z2,y2⟩,⟨z3,y3⟩,⟨z4,y4⟩,⟨z5,y5⟩,⟨z6,y6⟩,⟨z7,y7⟩,⟨z8,y8⟩,z9,y9⟩:=ZE.out
 go_wp2
 refine bodyPost_ret (v:=ce p (.slice a s.length cap) st ((l:Int)+1) true 4 nm false ⟨#[]⟩ false) (by simp [results,Tryz.results257,go_sem,z0,z1,z2,z3,z4,z5,z6,z7,z8,z9]) rfl ⟨_,rfl,⟨_,_,_,_,_,rfl⟩,cI (B3.out.mono hb) (by omega) _ _ _ _ _ _ _ _ _ _⟩
theorem re (op:Nat)(t:ByteArray)(k:Int)(p st l:Nat)(a:Option Addr)(cap:Nat)(s:List ByteArray)(nm pl:ByteArray)(b2 o2 n cap2 base:Nat)(y:Nat→aw)(w:World)
  (hY:RowReply w b2 o2 n y) (hO:w.ownsRow base 9 1 (.slice a s.length cap) s.length (strs s)) (hb:base≤w.heap.size) (hn:au nm=true) (hl:((l:Int) == 200)=false) (hl2:l≤200) (hw:l<n) (hop:((op:Int) == 13)=false) (hh:(y l).has=true) (hc:((y l).code == 0)=false) :
  Calls Tryz.prog 257 #[.agg #[.int .i64 op,.string t,.int .i64 k],ce p (.slice a s.length cap) st l false 0 ⟨#[]⟩ false ⟨#[]⟩ false,.string nm,.string pl,.slice (some ⟨b2,o2,none⟩) n cap2] w fun e w'=>∃ v,e=.returned v∧SoIs w' base v (.inr (.inl (5,nm,st)))∧Below base w w':=by
 have HY:=ae hY
 have HO:=ae hO
 have HN:=ae hn
 have HO0:=ae hO
 clear hY hO hn
 have A0:=ae ((((Below.refl w.heap.size w).alloc lr (.cells #[.int .i64 op,.string t,.int .i64 k] 176)).alloc (by simp) (.cells #[.int .i64 p,.slice a s.length cap,.int .i64 st,.int .i64 l,.bool false,.int .i64 0,.string ⟨#[]⟩,.bool false,.string ⟨#[]⟩,.bool false] 297)).alloc (by simp<;>omega) (.cells #[.int .i64 0,.slice none 0 0,.int .i64 0,.int .i64 0,.bool false,.int .i64 0,.string ⟨#[]⟩,.bool false,.string ⟨#[]⟩,.bool false] 297))
 have R0:=ae ((cz (w.alloc (.cells #[.int .i64 op,.string t,.int .i64 k] 176)) (.int .i64 p) (.slice a s.length cap) (.int .i64 st) (.int .i64 l) (.bool false) (.int .i64 0) (.string ⟨#[]⟩) (.bool false) (.string ⟨#[]⟩) (.bool false) 297 (w.heap.size+1) (by simp)).al (.cells #[.int .i64 0,.slice none 0 0,.int .i64 0,.int .i64 0,.bool false,.int .i64 0,.string ⟨#[]⟩,.bool false,.string ⟨#[]⟩,.bool false] 297))
 have Z0:=ae (cz ((w.alloc (.cells #[.int .i64 op,.string t,.int .i64 k] 176)).alloc (.cells #[.int .i64 p,.slice a s.length cap,.int .i64 st,.int .i64 l,.bool false,.int .i64 0,.string ⟨#[]⟩,.bool false,.string ⟨#[]⟩,.bool false] 297)) (.int .i64 0) (.slice none 0 0) (.int .i64 0) (.int .i64 0) (.bool false) (.int .i64 0) (.string ⟨#[]⟩) (.bool false) (.string ⟨#[]⟩) (.bool false) 297 (w.heap.size+1+1) (by simp))
 go_enter Tryz.func257,Tryz.ntmps257
 go_wp2_with fail
 refine (bN nm _).mono ?_
 rintro e w1 ⟨rfl,hB1⟩
 rw [HN.out]
 have R1:=ae (R0.out.below hB1 (by simp<;>omega))
 have Z1:=ae (Z0.out.below hB1 (by simp))
 have B1:=ae (A0.out.trans (hB1.mono (by simp<;>omega)))
 have i0:w1.cell? ⟨w.heap.size,0,none⟩=some (.int .i64 op):=(hB1.cell (p:=⟨w.heap.size,0,none⟩) (by simp<;>omega)).trans (iV _ _ _ _ _ _ _ rfl)
 have O1:=ae (own_below HO.out B1.out lr)
 have hz1:w.heap.size+1+1<w1.heap.size:=Z1.out.1
 clear hB1 A0 R0 Z0 HO HN
 obtain ⟨d0,d1,d2⟩:=(HY.out.below B1.out lr).2 l (by omega)
 rw [hh] at d0
 have hln:(l:Int)<n:=by omega
 have hz0:w.heap.size<w1.heap.size:=by omega
 have hz01:w.heap.size+1<w1.heap.size:=by omega
 have R2:=ae ((R1.out.set3 (.int .i64 ((l:Int)+1))).al (.cells #[.bool true,.int .i64 (y l).code,.string (y l).text] 75))
 have Z2:=ae ((Z1.out.other ⟨w.heap.size+1,3,none⟩ (.int .i64 ((l:Int)+1)) (by simp)).al (.cells #[.bool true,.int .i64 (y l).code,.string (y l).text] 75))
 have hne:∀ k,w.heap.size≤k→Value.ownBlock (.slice a s.length cap)≠some k:=fun k hk e=>by have:=(HO0.out.lt k e).2;omega
 have O2:=ae ((ownsRow_setCell_other O1.out (a:=⟨w.heap.size+1,3,none⟩) (hne _ (by simp)) (.int .i64 ((l:Int)+1))).alloc (.cells #[.bool true,.int .i64 (y l).code,.string (y l).text] 75))
 have B2:=ae ((B1.out.setCell (p:=⟨w.heap.size+1,3,none⟩) (by simp) (.int .i64 ((l:Int)+1))).alloc (by have:=B1.out.size;simpa using this) (.cells #[.bool true,.int .i64 (y l).code,.string (y l).text] 75))
 have HNE:=ae hne
 clear hne
 obtain ⟨chl,⟨c0,f0⟩,⟨c1,f1⟩,⟨c2,f2⟩,⟨c3,f3⟩,⟨c4,f4⟩,⟨c5,f5⟩,⟨c6,f6⟩,⟨c7,f7⟩,⟨c8,f8⟩,c9,f9⟩:=R1.out
 go_wp2_with fail
 refine (dd _ _ _ _ _ _ _ _ _ _ _ _ _ _ _).mono ?_
 rintro e w2 ⟨rfl,hB2⟩
 have ZE:=ae (Z2.out.below hB2 Z2.out.1)
 have B3:=ae (B2.out.trans (hB2.mono B2.out.size))
 clear hB2
 clear chl c0 f0 c1 f1 c2 f2 c3 f3 c4 f4 c5 f5 c6 f6 c7 f7 c8 f8 c9 f9
 obtain ⟨zhl,⟨z0,y0⟩,⟨z1,y1⟩,⟨z2,y2⟩,⟨z3,y3⟩,⟨z4,y4⟩,⟨z5,y5⟩,⟨z6,y6⟩,⟨z7,y7⟩,⟨z8,y8⟩,z9,y9⟩:=ZE.out
 go_wp2
 refine bodyPost_ret (v:=ce p (.slice a s.length cap) st ((l:Int)+1) true 5 nm false ⟨#[]⟩ false) (by simp [results,Tryz.results257,go_sem,z0,z1,z2,z3,z4,z5,z6,z7,z8,z9]) rfl ⟨_,rfl,⟨_,_,_,_,_,rfl⟩,cI (B3.out.mono hb) (by omega) _ _ _ _ _ _ _ _ _ _⟩
theorem uk (op:Nat)(t:ByteArray)(k:Int)(p st l:Nat)(a:Option Addr)(cap:Nat)(s:List ByteArray)(nm pl:ByteArray)(b2 o2 n cap2 base:Nat)(y:Nat→aw)(w:World)
  (hY:RowReply w b2 o2 n y) (hO:w.ownsRow base 9 1 (.slice a s.length cap) s.length (strs s)) (hb:base≤w.heap.size) (hn:au nm=true) (hl:((l:Int) == 200)=false) (hl2:l≤200) (hw:l<n) (hop:((op:Int) == 13)=true) (hs:s.length≤50) :
  Calls Tryz.prog 257 #[.agg #[.int .i64 op,.string t,.int .i64 k],ce p (.slice a s.length cap) st l false 0 ⟨#[]⟩ false ⟨#[]⟩ false,.string nm,.string pl,.slice (some ⟨b2,o2,none⟩) n cap2] w fun e w'=>∃ v,e=.returned v∧SoIs w' base v (.inl (p,st,(l+1),(cY (y l).has :: s)))∧Below base w w':=by
 have HY:=ae hY
 have HO:=ae hO
 have HN:=ae hn
 have HO0:=ae hO
 clear hY hO hn
 have A0:=ae ((((Below.refl w.heap.size w).alloc lr (.cells #[.int .i64 op,.string t,.int .i64 k] 176)).alloc (by simp) (.cells #[.int .i64 p,.slice a s.length cap,.int .i64 st,.int .i64 l,.bool false,.int .i64 0,.string ⟨#[]⟩,.bool false,.string ⟨#[]⟩,.bool false] 297)).alloc (by simp<;>omega) (.cells #[.int .i64 0,.slice none 0 0,.int .i64 0,.int .i64 0,.bool false,.int .i64 0,.string ⟨#[]⟩,.bool false,.string ⟨#[]⟩,.bool false] 297))
 have R0:=ae ((cz (w.alloc (.cells #[.int .i64 op,.string t,.int .i64 k] 176)) (.int .i64 p) (.slice a s.length cap) (.int .i64 st) (.int .i64 l) (.bool false) (.int .i64 0) (.string ⟨#[]⟩) (.bool false) (.string ⟨#[]⟩) (.bool false) 297 (w.heap.size+1) (by simp)).al (.cells #[.int .i64 0,.slice none 0 0,.int .i64 0,.int .i64 0,.bool false,.int .i64 0,.string ⟨#[]⟩,.bool false,.string ⟨#[]⟩,.bool false] 297))
 have Z0:=ae (cz ((w.alloc (.cells #[.int .i64 op,.string t,.int .i64 k] 176)).alloc (.cells #[.int .i64 p,.slice a s.length cap,.int .i64 st,.int .i64 l,.bool false,.int .i64 0,.string ⟨#[]⟩,.bool false,.string ⟨#[]⟩,.bool false] 297)) (.int .i64 0) (.slice none 0 0) (.int .i64 0) (.int .i64 0) (.bool false) (.int .i64 0) (.string ⟨#[]⟩) (.bool false) (.string ⟨#[]⟩) (.bool false) 297 (w.heap.size+1+1) (by simp))
 go_enter Tryz.func257,Tryz.ntmps257
 go_wp2_with fail
 refine (bN nm _).mono ?_
 rintro e w1 ⟨rfl,hB1⟩
 rw [HN.out]
 have R1:=ae (R0.out.below hB1 (by simp<;>omega))
 have Z1:=ae (Z0.out.below hB1 (by simp))
 have B1:=ae (A0.out.trans (hB1.mono (by simp<;>omega)))
 have i0:w1.cell? ⟨w.heap.size,0,none⟩=some (.int .i64 op):=(hB1.cell (p:=⟨w.heap.size,0,none⟩) (by simp<;>omega)).trans (iV _ _ _ _ _ _ _ rfl)
 have O1:=ae (own_below HO.out B1.out lr)
 have hz1:w.heap.size+1+1<w1.heap.size:=Z1.out.1
 clear hB1 A0 R0 Z0 HO HN
 obtain ⟨d0,d1,d2⟩:=(HY.out.below B1.out lr).2 l (by omega)
 have hln:(l:Int)<n:=by omega
 have hz0:w.heap.size<w1.heap.size:=by omega
 have hz01:w.heap.size+1<w1.heap.size:=by omega
 have R2:=ae ((R1.out.set3 (.int .i64 ((l:Int)+1))).al (.cells #[.bool (y l).has,.int .i64 (y l).code,.string (y l).text] 75))
 have Z2:=ae ((Z1.out.other ⟨w.heap.size+1,3,none⟩ (.int .i64 ((l:Int)+1)) (by simp)).al (.cells #[.bool (y l).has,.int .i64 (y l).code,.string (y l).text] 75))
 have hne:∀ k,w.heap.size≤k→Value.ownBlock (.slice a s.length cap)≠some k:=fun k hk e=>by have:=(HO0.out.lt k e).2;omega
 have O2:=ae ((ownsRow_setCell_other O1.out (a:=⟨w.heap.size+1,3,none⟩) (hne _ (by simp)) (.int .i64 ((l:Int)+1))).alloc (.cells #[.bool (y l).has,.int .i64 (y l).code,.string (y l).text] 75))
 have B2:=ae ((B1.out.setCell (p:=⟨w.heap.size+1,3,none⟩) (by simp) (.int .i64 ((l:Int)+1))).alloc (by have:=B1.out.size;simpa using this) (.cells #[.bool (y l).has,.int .i64 (y l).code,.string (y l).text] 75))
 have hWz:w1.heap.size<((w1.setCell ⟨w.heap.size+1,3,none⟩ (.int .i64 ((l:Int)+1))).alloc (.cells #[.bool (y l).has,.int .i64 (y l).code,.string (y l).text] 75)).heap.size:=by simp
 have g0:((w1.setCell ⟨w.heap.size+1,3,none⟩ (.int .i64 ((l:Int)+1))).alloc (.cells #[.bool (y l).has,.int .i64 (y l).code,.string (y l).text] 75)).cell? ⟨w1.heap.size,0,none⟩=some (.bool (y l).has):=gS _ _ _ _ _ _ (by simp) rfl
 have g2:((w1.setCell ⟨w.heap.size+1,3,none⟩ (.int .i64 ((l:Int)+1))).alloc (.cells #[.bool (y l).has,.int .i64 (y l).code,.string (y l).text] 75)).cell? ⟨w1.heap.size,2,none⟩=some (.string (y l).text):=gS _ _ _ _ _ _ (by simp) rfl
 have HNE:=ae hne
 clear hne
 obtain ⟨i0',hi,hy0,hy1,hy2⟩:=info_parts ec
 obtain ⟨chl,⟨c0,f0⟩,⟨c1,f1⟩,⟨c2,f2⟩,⟨c3,f3⟩,⟨c4,f4⟩,⟨c5,f5⟩,⟨c6,f6⟩,⟨c7,f7⟩,⟨c8,f8⟩,c9,f9⟩:=R1.out
 go_wp2_with fail
 clear chl c0 f0 c1 f1 c2 f2 c3 f3 c4 f4 c5 f5 c6 f6 c7 f7 c8 f8 c9 f9
 generalize ((w1.setCell ⟨w.heap.size+1,3,none⟩ (.int .i64 ((l:Int)+1))).alloc (.cells #[.bool (y l).has,.int .i64 (y l).code,.string (y l).text] 75))=W at R2 Z2 O2 B2 hWz g0 g2 ⊢
 have hbW:base≤W.heap.size:=Nat.le_trans hb B2.out.size
 obtain ⟨chl,⟨c0,f0⟩,⟨c1,f1⟩,⟨c2,f2⟩,⟨c3,f3⟩,⟨c4,f4⟩,⟨c5,f5⟩,⟨c6,f6⟩,⟨c7,f7⟩,⟨c8,f8⟩,c9,f9⟩:=R2.out
 go_region_law (first | (refine eR rfl (.tmp 49) (.tmp 53) 39 rfl base 9 i0' (.string ⟨#[]⟩) 1 16 Tryz.underlying39 hi hy0 hy1 hy2 rfl (by decide) (.slice a s.length cap) s.length (strs s) (by simp [Act.eval]) (by first | exact O2.out.alloc _ | exact O2.out.drew.alloc _ | exact O2.out.drew.drew.alloc _) ⟨W.heap.size,0,none⟩ 1 1 [.string (cY (y l).has)] (by simp [Act.eval]) rfl (by first | exact eH W _ _ | exact eH W.drew _ _ | exact eH W.drew.drew _ _) (by simp [Value.oneCell']) (by unfold maxLen;omega) (by omega) (by simp<;>omega) ?_;intro v' w2 hown hgrow hnil;obtain ⟨gg,cc,rfl⟩:=fX hown (by omega);(first | have R3:=ae ((R2.out.al _).grown hgrow (fun e=>HNE.out _ (by omega) e.symm)) | have R3:=ae ((R2.out.drew.al _).grown hgrow (fun e=>HNE.out _ (by omega) e.symm)) | have R3:=ae ((R2.out.drew.drew.al _).grown hgrow (fun e=>HNE.out _ (by omega) e.symm)));(first | have Z3:=ae ((Z2.out.al _).grown hgrow (fun e=>HNE.out _ (by omega) e.symm)) | have Z3:=ae ((Z2.out.drew.al _).grown hgrow (fun e=>HNE.out _ (by omega) e.symm)) | have Z3:=ae ((Z2.out.drew.drew.al _).grown hgrow (fun e=>HNE.out _ (by omega) e.symm)));(first | have B3:=ae (Below.grown (Below.alloc ((B2.out.mono hb)) (by first | exact hbW | (simp;exact hbW)) _) hgrow (by simp<;>omega) (fun k e=>(O2.out.lt k e).1)) | have B3:=ae (Below.grown (Below.alloc ((B2.out.mono hb).drew) (by first | exact hbW | (simp;exact hbW)) _) hgrow (by simp<;>omega) (fun k e=>(O2.out.lt k e).1)) | have B3:=ae (Below.grown (Below.alloc ((B2.out.mono hb).drew.drew) (by first | exact hbW | (simp;exact hbW)) _) hgrow (by simp<;>omega) (fun k e=>(O2.out.lt k e).1)));obtain ⟨khl,⟨k0,m0⟩,⟨k1,m1⟩,⟨k2,m2⟩,⟨k3,m3⟩,⟨k4,m4⟩,⟨k5,m5⟩,⟨k6,m6⟩,⟨k7,m7⟩,⟨k8,m8⟩,k9,m9⟩:=R3.out) | (go_simp;go_at_call 274;refine (kg _ _).mono ?_;rintro e w9 ⟨rfl,hw9⟩;subst hw9))
 all_goals
  have Y:=ae (pD (x:=(cY (y l).has)) (s:=s))
  have ne1:=kB hown Y.out.choose_spec R3.out.2.1.1
  have ne2:=kB hown Y.out.choose_spec Z3.out.2.1.1
  have OWN:=ae (cJ hown ne1 (.slice (some ⟨gg,0,none⟩) (s.length+1) cc) 1)
  have ZE:=ae (Z3.out.other ⟨w.heap.size+1,1,none⟩ (.slice (some ⟨gg,0,none⟩) (s.length+1) cc) (by simp))
  have B4:=ae (B3.out.setCell (p:=⟨w.heap.size+1,1,none⟩) (by simp;omega) (.slice (some ⟨gg,0,none⟩) (s.length+1) cc))
  clear hown hgrow hnil ne1
  obtain ⟨zhl,⟨z0,y0⟩,⟨z1,y1⟩,⟨z2,y2⟩,⟨z3,y3⟩,⟨z4,y4⟩,⟨z5,y5⟩,⟨z6,y6⟩,⟨z7,y7⟩,⟨z8,y8⟩,z9,y9⟩:=Z3.out
  go_wp2
  refine bodyPost_ret (v:=ce p (.slice (some ⟨gg,0,none⟩) (s.length+1) cc) st ((l:Int)+1) false 0 ⟨#[]⟩ false ⟨#[]⟩ false) (by simp [results,Tryz.results257,go_sem,z0,z1,z2,z3,z4,z5,z6,z7,z8,z9]) rfl ⟨_,rfl,⟨some ⟨gg,0,none⟩,cc,by simp,?_⟩,cI B4.out (by omega) _ _ _ _ _ _ _ _ _ _⟩
  rw [dY]
  exact nT OWN.out ne2 _ _ _ _ _ _ _ _ _ _
theorem sI (op:Nat)(t:ByteArray)(k:Int)(p st l:Nat)(a:Option Addr)(cap:Nat)(s:List ByteArray)(nm pl:ByteArray)(b2 o2 n cap2 base:Nat)(y:Nat→aw)(w:World)
  (hY:RowReply w b2 o2 n y) (hO:w.ownsRow base 9 1 (.slice a s.length cap) s.length (strs s)) (hb:base≤w.heap.size) (hn:au nm=true) (hl:((l:Int) == 200)=false) (hl2:l≤200) (hw:l<n) (hop:((op:Int) == 13)=false) (hh:(y l).has=true) (hc:(y l).code=0) (hs:s.length≤50) :
  Calls Tryz.prog 257 #[.agg #[.int .i64 op,.string t,.int .i64 k],ce p (.slice a s.length cap) st l false 0 ⟨#[]⟩ false ⟨#[]⟩ false,.string nm,.string pl,.slice (some ⟨b2,o2,none⟩) n cap2] w fun e w'=>∃ v,e=.returned v∧SoIs w' base v (.inl (p,st,(l+1),((y l).text :: s)))∧Below base w w':=by
 have HY:=ae hY
 have HO:=ae hO
 have HN:=ae hn
 have HO0:=ae hO
 clear hY hO hn
 have A0:=ae ((((Below.refl w.heap.size w).alloc lr (.cells #[.int .i64 op,.string t,.int .i64 k] 176)).alloc (by simp) (.cells #[.int .i64 p,.slice a s.length cap,.int .i64 st,.int .i64 l,.bool false,.int .i64 0,.string ⟨#[]⟩,.bool false,.string ⟨#[]⟩,.bool false] 297)).alloc (by simp<;>omega) (.cells #[.int .i64 0,.slice none 0 0,.int .i64 0,.int .i64 0,.bool false,.int .i64 0,.string ⟨#[]⟩,.bool false,.string ⟨#[]⟩,.bool false] 297))
 have R0:=ae ((cz (w.alloc (.cells #[.int .i64 op,.string t,.int .i64 k] 176)) (.int .i64 p) (.slice a s.length cap) (.int .i64 st) (.int .i64 l) (.bool false) (.int .i64 0) (.string ⟨#[]⟩) (.bool false) (.string ⟨#[]⟩) (.bool false) 297 (w.heap.size+1) (by simp)).al (.cells #[.int .i64 0,.slice none 0 0,.int .i64 0,.int .i64 0,.bool false,.int .i64 0,.string ⟨#[]⟩,.bool false,.string ⟨#[]⟩,.bool false] 297))
 have Z0:=ae (cz ((w.alloc (.cells #[.int .i64 op,.string t,.int .i64 k] 176)).alloc (.cells #[.int .i64 p,.slice a s.length cap,.int .i64 st,.int .i64 l,.bool false,.int .i64 0,.string ⟨#[]⟩,.bool false,.string ⟨#[]⟩,.bool false] 297)) (.int .i64 0) (.slice none 0 0) (.int .i64 0) (.int .i64 0) (.bool false) (.int .i64 0) (.string ⟨#[]⟩) (.bool false) (.string ⟨#[]⟩) (.bool false) 297 (w.heap.size+1+1) (by simp))
 go_enter Tryz.func257,Tryz.ntmps257
 go_wp2_with fail
 refine (bN nm _).mono ?_
 rintro e w1 ⟨rfl,hB1⟩
 rw [HN.out]
 have R1:=ae (R0.out.below hB1 (by simp<;>omega))
 have Z1:=ae (Z0.out.below hB1 (by simp))
 have B1:=ae (A0.out.trans (hB1.mono (by simp<;>omega)))
 have i0:w1.cell? ⟨w.heap.size,0,none⟩=some (.int .i64 op):=(hB1.cell (p:=⟨w.heap.size,0,none⟩) (by simp<;>omega)).trans (iV _ _ _ _ _ _ _ rfl)
 have O1:=ae (own_below HO.out B1.out lr)
 have hz1:w.heap.size+1+1<w1.heap.size:=Z1.out.1
 clear hB1 A0 R0 Z0 HO HN
 obtain ⟨d0,d1,d2⟩:=(HY.out.below B1.out lr).2 l (by omega)
 rw [hh] at d0
 rw [hc] at d1
 have hln:(l:Int)<n:=by omega
 have hz0:w.heap.size<w1.heap.size:=by omega
 have hz01:w.heap.size+1<w1.heap.size:=by omega
 have R2:=ae ((R1.out.set3 (.int .i64 ((l:Int)+1))).al (.cells #[.bool true,.int .i64 0,.string (y l).text] 75))
 have Z2:=ae ((Z1.out.other ⟨w.heap.size+1,3,none⟩ (.int .i64 ((l:Int)+1)) (by simp)).al (.cells #[.bool true,.int .i64 0,.string (y l).text] 75))
 have hne:∀ k,w.heap.size≤k→Value.ownBlock (.slice a s.length cap)≠some k:=fun k hk e=>by have:=(HO0.out.lt k e).2;omega
 have O2:=ae ((ownsRow_setCell_other O1.out (a:=⟨w.heap.size+1,3,none⟩) (hne _ (by simp)) (.int .i64 ((l:Int)+1))).alloc (.cells #[.bool true,.int .i64 0,.string (y l).text] 75))
 have B2:=ae ((B1.out.setCell (p:=⟨w.heap.size+1,3,none⟩) (by simp) (.int .i64 ((l:Int)+1))).alloc (by have:=B1.out.size;simpa using this) (.cells #[.bool true,.int .i64 0,.string (y l).text] 75))
 have hWz:w1.heap.size<((w1.setCell ⟨w.heap.size+1,3,none⟩ (.int .i64 ((l:Int)+1))).alloc (.cells #[.bool true,.int .i64 0,.string (y l).text] 75)).heap.size:=by simp
 have hWe:((w1.setCell ⟨w.heap.size+1,3,none⟩ (.int .i64 ((l:Int)+1))).alloc (.cells #[.bool true,.int .i64 0,.string (y l).text] 75)).heap.size=w1.heap.size+1:=by simp
 have g0:((w1.setCell ⟨w.heap.size+1,3,none⟩ (.int .i64 ((l:Int)+1))).alloc (.cells #[.bool true,.int .i64 0,.string (y l).text] 75)).cell? ⟨w1.heap.size,0,none⟩=some (.bool true):=gS _ _ _ _ _ _ (by simp) rfl
 have g2:((w1.setCell ⟨w.heap.size+1,3,none⟩ (.int .i64 ((l:Int)+1))).alloc (.cells #[.bool true,.int .i64 0,.string (y l).text] 75)).cell? ⟨w1.heap.size,2,none⟩=some (.string (y l).text):=gS _ _ _ _ _ _ (by simp) rfl
 have HNE:=ae hne
 clear hne
 obtain ⟨i0',hi,hy0,hy1,hy2⟩:=info_parts ec
 obtain ⟨chl,⟨c0,f0⟩,⟨c1,f1⟩,⟨c2,f2⟩,⟨c3,f3⟩,⟨c4,f4⟩,⟨c5,f5⟩,⟨c6,f6⟩,⟨c7,f7⟩,⟨c8,f8⟩,c9,f9⟩:=R1.out
 go_wp2_with (at_builtin;generalize ((w1.setCell ⟨w.heap.size+1,3,none⟩ (.int .i64 ((l:Int)+1))).alloc (.cells #[.bool true,.int .i64 0,.string (y l).text] 75))=W at R2 Z2 O2 B2 hWz hWe g0 g2 ⊢;have hbW:base≤W.heap.size:=Nat.le_trans hb B2.out.size;refine wpList_append_own _ rfl (.tmp 70) (.tmp 73) 39 rfl base 9 i0' (.string ⟨#[]⟩) 1 16 Tryz.underlying39 hi hy0 hy1 hy2 rfl (by decide) (.slice a s.length cap) s.length (strs s) (by simp [Act.eval]) (by first | exact O2.out.alloc _ | exact O2.out.drew.alloc _ | exact O2.out.drew.drew.alloc _) ⟨w1.heap.size+1,0,none⟩ 1 1 [.string (y l).text] (by simp [Act.eval]) rfl (by rw [← hWe];exact eH W _ _) (by simp [Value.oneCell']) (by unfold maxLen;omega) (by omega) (by simp<;>omega) ?_;intro v' w2 hown hgrow hnil;obtain ⟨gg,cc,rfl⟩:=fX hown (by omega);(first | have R3:=ae ((R2.out.al _).grown hgrow (fun e=>HNE.out _ (by omega) e.symm)) | have R3:=ae ((R2.out.drew.al _).grown hgrow (fun e=>HNE.out _ (by omega) e.symm)) | have R3:=ae ((R2.out.drew.drew.al _).grown hgrow (fun e=>HNE.out _ (by omega) e.symm)));(first | have Z3:=ae ((Z2.out.al _).grown hgrow (fun e=>HNE.out _ (by omega) e.symm)) | have Z3:=ae ((Z2.out.drew.al _).grown hgrow (fun e=>HNE.out _ (by omega) e.symm)) | have Z3:=ae ((Z2.out.drew.drew.al _).grown hgrow (fun e=>HNE.out _ (by omega) e.symm)));(first | have B3:=ae (Below.grown (Below.alloc ((B2.out.mono hb)) (by first | exact hbW | (simp;exact hbW)) _) hgrow (by simp<;>omega) (fun k e=>(O2.out.lt k e).1)) | have B3:=ae (Below.grown (Below.alloc ((B2.out.mono hb).drew) (by first | exact hbW | (simp;exact hbW)) _) hgrow (by simp<;>omega) (fun k e=>(O2.out.lt k e).1)) | have B3:=ae (Below.grown (Below.alloc ((B2.out.mono hb).drew.drew) (by first | exact hbW | (simp;exact hbW)) _) hgrow (by simp<;>omega) (fun k e=>(O2.out.lt k e).1)));obtain ⟨khl,⟨k0,m0⟩,⟨k1,m1⟩,⟨k2,m2⟩,⟨k3,m3⟩,⟨k4,m4⟩,⟨k5,m5⟩,⟨k6,m6⟩,⟨k7,m7⟩,⟨k8,m8⟩,k9,m9⟩:=R3.out;obtain ⟨zhl,⟨z0,y0⟩,⟨z1,y1⟩,⟨z2,y2⟩,⟨z3,y3⟩,⟨z4,y4⟩,⟨z5,y5⟩,⟨z6,y6⟩,⟨z7,y7⟩,⟨z8,y8⟩,z9,y9⟩:=Z3.out)
 all_goals
  have Y:=ae (pD (x:=(y l).text) (s:=s))
  have ne1:=kB hown Y.out.choose_spec R3.out.2.1.1
  have ne2:=kB hown Y.out.choose_spec Z3.out.2.1.1
  have OWN:=ae (cJ hown ne1 (.slice (some ⟨gg,0,none⟩) (s.length+1) cc) 1)
  have ZE:=ae (Z3.out.other ⟨w.heap.size+1,1,none⟩ (.slice (some ⟨gg,0,none⟩) (s.length+1) cc) (by simp))
  have B4:=ae (B3.out.setCell (p:=⟨w.heap.size+1,1,none⟩) (by simp;omega) (.slice (some ⟨gg,0,none⟩) (s.length+1) cc))
  clear hown hgrow hnil ne1
  refine bodyPost_ret (v:=ce p (.slice (some ⟨gg,0,none⟩) (s.length+1) cc) st ((l:Int)+1) false 0 ⟨#[]⟩ false ⟨#[]⟩ false) (by simp [results,Tryz.results257,go_sem,z0,z1,z2,z3,z4,z5,z6,z7,z8,z9]) rfl ⟨_,rfl,⟨some ⟨gg,0,none⟩,cc,by simp,?_⟩,cI B4.out (by omega) _ _ _ _ _ _ _ _ _ _⟩
  rw [dY]
  exact nT OWN.out ne2 _ _ _ _ _ _ _ _ _ _
theorem add0 (g j:Nat):(⟨g,0,none⟩:Addr).add j=⟨g,j,none⟩:=by
 unfold Addr.add
 split<;>simp_all
theorem vC {w:World}{base g cap:Nat}{e:TypeId}{x:ByteArray}{r:List ByteArray}(h:w.ownsRow base e 1 (.slice (some ⟨g,0,none⟩) (r.length+1) cap) (r.length+1) (strs (x :: r))):w.cell? ⟨g,r.length,none⟩=some (.string x):=by
 have:=h.cells (g:=g) rfl r.length (.string x) (by rw [dY,List.getElem?_append_right (by simp)];simp)
 rwa [add0] at this
theorem vD {w:World}{base g cap:Nat}{e:TypeId}{x z:ByteArray}{r:List ByteArray}(h:w.ownsRow base e 1 (.slice (some ⟨g,0,none⟩) (r.length+2) cap) (r.length+2) (strs (x :: z :: r))):w.cell? ⟨g,r.length+1,none⟩=some (.string x)∧w.cell? ⟨g,r.length,none⟩=some (.string z):=by
 have h1:=h.cells (g:=g) rfl (r.length+1) (.string x) (by rw [dY,List.getElem?_append_right (by simp)];simp)
 have h2:=h.cells (g:=g) rfl r.length (.string z) (by rw [dY,List.getElem?_append_left (by simp),dY,List.getElem?_append_right (by simp)];simp)
 rw [add0] at h1 h2
 exact ⟨h1,h2⟩
theorem vE {w:World}{base n cap:Nat}{e:TypeId}{g:Nat}{xs:List Value}(h:w.ownsRow base e 1 (.slice (some ⟨g,0,none⟩) n cap) n xs):n≤cap:=by
 rcases h.2 with ⟨h0,_⟩ | ⟨g,c,cur,hv,_,_,hn,_⟩
 ·simp at h0
 ·simp at hv
  omega
theorem vF {w:World}{base g n cap:Nat}{e:TypeId}{r:List ByteArray}{xs:List Value}(h:w.ownsRow base e 1 (.slice (some ⟨g,0,none⟩) n cap) n (strs r++xs)):∀ j u,(strs r)[j]?=some u→w.cell? ((⟨g,0,none⟩:Addr).add j)=some u:=fun j u hu =>
 h.cells (g:=g) rfl j u (by rw [List.getElem?_append_left (by obtain ⟨hj,_⟩:=List.getElem?_eq_some_iff.1 hu;exact hj)];exact hu)
theorem lO {w:World}{base n:Nat}{e:TypeId}{v:Value}{xs:List Value}(h:w.ownsRow base e 1 v n xs)(hv:v≠.slice none 0 0):∃ g cap,v=.slice (some ⟨g,0,none⟩) n cap∧base≤g:=by
 rcases h.2 with ⟨h0,_⟩ | ⟨g,cap,cur,hv,hg,_⟩
 ·exact absurd h0 hv
 ·exact ⟨g,cap,hv,hg⟩
theorem um (r:List ByteArray):∀ u∈strs r,u.oneCell'=true:=by
 intro u hu
 obtain ⟨x,_,rfl⟩:=List.mem_map.1 hu
 rfl
def iW (y:Nat→aw)(n op:Nat)(pl nm:ByteArray)(s:List ByteArray)(p st l:Nat):SO :=
 if au nm=false then .inr (.inl (2,pl,st)) else if l=200 then .inr (.inl (3,⟨#[]⟩,st)) else gu y n ((op:Int) == 12) nm s p st l
theorem rh (op:Nat)(t:ByteArray)(k:Int)(p st l:Nat)(a:Option Addr)(cap:Nat)(s:List ByteArray)(nm pl:ByteArray)(b2 o2 n cap2 base:Nat)(y:Nat→aw)(w:World)
  (hY:RowReply w b2 o2 n y) (hO:w.ownsRow base 9 1 (.slice a s.length cap) s.length (strs s)) (hb:base≤w.heap.size) (hop:op=12∨op=13) (hl:l≤200) (hs:s.length≤50) :
  Calls Tryz.prog 257 #[.agg #[.int .i64 op,.string t,.int .i64 k],ce p (.slice a s.length cap) st l false 0 ⟨#[]⟩ false ⟨#[]⟩ false,.string nm,.string pl,.slice (some ⟨b2,o2,none⟩) n cap2] w fun e w'=>∃ v,e=.returned v∧SoIs w' base v (iW y n op pl nm s p st l)∧Below base w w':=by
 unfold iW
 by_cases h1:au nm=false
 ·rw [if_pos h1]
  exact sF op t k p st l a cap s nm pl b2 o2 n cap2 base y w hY hO hb h1
 ·rw [if_neg h1]
  have h1:au nm=true:=by simpa using h1
  by_cases h2:l=200
  ·rw [if_pos h2]
   exact qZ op t k p st l a cap s nm pl b2 o2 n cap2 base y w hY hO hb h1 (by simp;omega)
  ·rw [if_neg h2]
   have h2:((l:Int) == 200)=false:=by simp;omega
   unfold gu
   by_cases h3:n≤l
   ·rw [if_pos h3]
    exact sG op t k p st l a cap s nm pl b2 o2 n cap2 base y w hY hO hb h1 h2 (by omega)
   ·rw [if_neg h3]
    rcases hop with rfl | rfl
    ·rw [if_neg (by simp)]
     by_cases h4:(y l).has=false
     ·rw [if_pos h4]
      exact sH 12 t k p st l a cap s nm pl b2 o2 n cap2 base y w hY hO hb h1 h2 hl (by omega) (by simp) h4
     ·rw [if_neg h4]
      have h4:(y l).has=true:=by simpa using h4
      by_cases h5:(y l).code=0
      ·rw [if_pos h5]
       exact sI 12 t k p st l a cap s nm pl b2 o2 n cap2 base y w hY hO hb h1 h2 hl (by omega) (by simp) h4 h5 hs
      ·rw [if_neg h5]
       exact re 12 t k p st l a cap s nm pl b2 o2 n cap2 base y w hY hO hb h1 h2 hl (by omega) (by simp) h4 (by simpa using h5)
    ·rw [if_pos (by simp)]
     exact uk 13 t k p st l a cap s nm pl b2 o2 n cap2 base y w hY hO hb h1 h2 hl (by omega) (by simp) hs
theorem SoIs.form {w:World}{base:Nat}{v:Value}{r:SO}(h:SoIs w base v r):∃ (at_:Int) (a:Option Addr) (n cap:Nat) (st lk:Int) (ov:Bool) (c:Int) (x:ByteArray) (ask:Bool) (nm:ByteArray) (wt:Bool),v=ce at_ (.slice a n cap) st lk ov c x ask nm wt:=by
 rcases r with ⟨p,st,l,s⟩ | ⟨c,x,st⟩ | ⟨ask,nm,st⟩
 ·obtain ⟨a,cap,e,_⟩:=h
  exact ⟨_,_,_,_,_,_,_,_,_,_,_,_,e⟩
 ·obtain ⟨at_,a,n,cap,lk,e⟩:=h
  exact ⟨_,_,_,_,_,_,_,_,_,_,_,_,e⟩
 ·obtain ⟨at_,a,n,cap,lk,e⟩:=h
  exact ⟨_,_,_,_,_,_,_,_,_,_,_,_,e⟩
theorem SoIs.set {w:World}{base:Nat}{v:Value}{r:SO}(h:SoIs w base v r){k:Nat}(hk:k<base)(j:Nat)(u:Value):SoIs (w.setCell ⟨k,j,none⟩ u) base v r:=by
 rcases r with ⟨p,st,l,s⟩ | ⟨c,x,st⟩ | ⟨ask,nm,st⟩
 ·obtain ⟨a,cap,e,ho⟩:=h
  exact ⟨a,cap,e,ownsRow_setCell_below ho (a:=⟨k,j,none⟩) hk u⟩
 ·exact h
 ·exact h
theorem SoIs.mono {w:World}{base base':Nat}{v:Value}{r:SO}(h:SoIs w base v r)(hb:base'≤base):SoIs w base' v r:=h.kept br hb
theorem sJ {w:World}{base:Nat}{v:Value}{r:SO}(h:SoIs w base v r){k:Nat}(hk:k<base)(v0 v1 v2 v3 v4 v5 v6 v7 v8 v9:Value):SoIs ((((((((((w.setCell ⟨k,0,none⟩ v0).setCell ⟨k,1,none⟩ v1).setCell ⟨k,2,none⟩ v2).setCell ⟨k,3,none⟩ v3).setCell ⟨k,4,none⟩ v4).setCell ⟨k,5,none⟩ v5).setCell ⟨k,6,none⟩ v6).setCell ⟨k,7,none⟩ v7).setCell ⟨k,8,none⟩ v8).setCell ⟨k,9,none⟩ v9) base v r :=
 (((((((((h.set hk 0 v0).set hk 1 v1).set hk 2 v2).set hk 3 v3).set hk 4 v4).set hk 5 v5).set hk 6 v6).set hk 7 v7).set hk 8 v8).set hk 9 v9
theorem ri (op n:Nat)(t a b:ByteArray)(h1:1≤op)(h11:op≤11):(bB op n t a b).length=bi op:=by
 rcases (show op=1∨op=2∨op=3∨op=4∨op=5∨op=6∨op=7∨op=8∨op=9∨op=10∨op=11 by omega) with rfl | rfl | rfl | rfl | rfl | rfl | rfl | rfl | rfl | rfl | rfl
 all_goals rfl
theorem vG {op j:Nat}(h1:1≤op)(h11:op≤11)(h:j<bi op):op≤8:=by
 rcases (show op=1∨op=2∨op=3∨op=4∨op=5∨op=6∨op=7∨op=8∨op=9∨op=10∨op=11 by omega) with rfl | rfl | rfl | rfl | rfl | rfl | rfl | rfl | rfl | rfl | rfl
 all_goals simp [bi] at h ⊢
theorem un (op:Nat):bi op≤2:=by
 unfold bi
 split
 ·omega
 ·split<;>omega
def eK (PL:List ByteArray)(pl:ByteArray)(r:List ByteArray)(p st l:Nat):SO:=if PL.all (fun x=>decide (x.size≤2000)) then .inl (p,st,l,(PL.reverse++r)) else .inr (.inl (2,pl,st))
theorem sK {PL:List ByteArray}{j:Nat}(h:j<PL.length):(PL.take (j+1)).map Value.string=(PL.take j).map Value.string++[.string (PL.getD j ⟨#[]⟩)]:=by
 rw [List.take_add_one,List.map_append,List.getElem?_eq_getElem h]
 simp [h]
theorem uo (PL r:List ByteArray):strs (PL.reverse++r)=strs r++PL.map Value.string:=by simp [strs]
theorem vH {PL:List ByteArray}{j:Nat}(h:j<PL.length)(hs:¬ ((PL.getD j ⟨#[]⟩).size:Int)≤2000):PL.all (fun x=>decide (x.size≤2000))=false:=by
 simp only [List.all_eq_false]
 exact ⟨PL[j],List.getElem_mem h,by simp [h] at hs ⊢;omega⟩
theorem uq {PL:List ByteArray}(h:∀ i,i<PL.length→(PL.getD i ⟨#[]⟩).size≤2000):PL.all (fun x=>decide (x.size≤2000))=true:=by
 simp only [List.all_eq_true,decide_eq_true_eq]
 intro x hx
 obtain ⟨i,hi,rfl⟩:=List.mem_iff_getElem.1 hx
 have:=h i hi
 simpa [hi] using this
def fk (y:Nat→aw)(n place st looks:Nat):Res→SO
 | .inr (.inl (c,x))=>.inr (.inl (c,x,st))
 | .inl (s',p)=>.inl (p,st,looks,s')
 | .inr (.inr (a,nm,s'))=>gu y n a nm s' (place+1) st looks
def ez (f:Nat→Ins)(cnt:Nat)(y:Nat→aw)(n place steps looks:Nat)(s:List ByteArray):SO:=fk y n place (bU cnt place steps) looks (bq f cnt place steps looks s)
theorem sL {w:World}{base n cap:Nat}{e:TypeId}{a:Option Addr}{xs:List Value}(h:w.ownsRow base e 1 (.slice a n cap) n xs):(a=none∧n=0∧cap=0)∨∃ g,a=some ⟨g,0,none⟩:=by
 rcases h.2 with ⟨h0,_⟩ | ⟨g,c,cur,hv,_⟩
 ·simp only [Value.slice.injEq] at h0
  exact .inl h0
 ·simp only [Value.slice.injEq] at hv
  exact .inr ⟨g,hv.1⟩
theorem rj (op k:Nat)(t a b:ByteArray)(h1:1≤op)(h11:op≤11)(h2:op≠2)(ht:t.size≤2000)(ha:a.size≤2000)(hb:b.size≤2000):(bB op k t a b).all (fun x=>decide (x.size≤2000))=true:=by
 rcases (show op=1∨op=3∨op=4∨op=5∨op=6∨op=7∨op=8∨op=9∨op=10∨op=11 by omega) with rfl | rfl | rfl | rfl | rfl | rfl | rfl | rfl | rfl | rfl
 ·simp [bB,ht]
 ·simp only [bB,List.all_cons,List.all_nil,Bool.and_true,decide_eq_true_eq]
  split
  ·simp;omega
  ·exact ha
 ·simp only [bB,List.all_cons,List.all_nil,Bool.and_true,decide_eq_true_eq]
  split
  ·simp;omega
  ·decide
 ·simp only [bB,List.all_cons,List.all_nil,Bool.and_true,decide_eq_true_eq]
  exact Nat.le_trans (km _ _) ha
 ·simp only [bB,List.all_cons,List.all_nil,Bool.and_true,decide_eq_true_eq]
  exact eX _
 ·simp [bB,ha]
 ·simp [bB,ha,hb]
 ·rfl
 ·rfl
 ·rfl
theorem rm (op k:Nat)(t a b pl:ByteArray)(r:List ByteArray)(p st l:Nat)(h1:1≤op)(h11:op≤11)(h2:op≠2)(ht:t.size≤2000)(ha:a.size≤2000)(hb:b.size≤2000):eK (bB op k t a b) pl r p st l=.inl (p,st,l,((bB op k t a b).reverse++r)):=by
 unfold eK
 rw [rj op k t a b h1 h11 h2 ht ha hb]
 rfl
theorem wL (k:Nat)(t x z:ByteArray)(r:List ByteArray)(y:Nat→aw)(n place st looks:Nat):fk y n place st looks (bY 2 k t place looks (x :: z :: r))=eK (bB 2 k t x z) (cH place) r (place+1) st looks:=by
 unfold eK
 simp only [bY,bB,List.all_cons,List.all_nil,Bool.and_true,ByteArray.size_append]
 by_cases h:z.size+x.size≤2000
 ·rw [if_pos h,if_pos (by simpa using h)]
  rfl
 ·rw [if_neg h,if_neg (by simpa using h)]
  rfl
theorem pE (op:Nat)(y:Nat→aw)(n place st looks:Nat)(x:ByteArray)(r:List ByteArray)(b:Bool)(hb:((op:Int) == 12)=b):fk y n place st looks (dV b x r place looks)=iW y n op (cH place) x r (place+1) st looks:=by
 unfold dV iW
 rw [hb]
 by_cases h1:au x=false
 ·rw [if_pos h1,if_pos h1]
  rfl
 ·rw [if_neg h1,if_neg h1]
  by_cases h2:looks=200
  ·rw [if_pos h2,if_pos h2]
   rfl
  ·rw [if_neg h2,if_neg h2]
   rfl
theorem us (l r:List ByteArray):strs (l++r)=strs r++strs l:=by simp [strs]
def ia (op:Nat)(s:List ByteArray):ByteArray:=if 0<aB op then s.getD 0 ⟨#[]⟩ else ⟨#[]⟩
def li (op:Nat)(s:List ByteArray):ByteArray:=if 1<aB op then s.getD 1 ⟨#[]⟩ else ⟨#[]⟩
def iX (op k:Nat)(a:ByteArray)(place:Nat):Nat:=if op=10 then k else if op=11∧(a.toList=[]∨(a.toList == [48])=true) then k else place+1
theorem xu {op k place:Nat}{A:ByteArray}(h:op=10∨op=11∧A.toList.isEmpty=true∨op=11∧(A.toList == [48])=true):iX op k A place=k:=by
 unfold iX
 rcases h with rfl | ⟨rfl,h⟩ | ⟨rfl,h⟩
 ·rfl
 ·rw [if_neg (by omega),if_pos ⟨rfl,.inl (List.isEmpty_iff.1 h)⟩]
 ·rw [if_neg (by omega),if_pos ⟨rfl,.inr h⟩]
theorem vI (op:Nat)(A:ByteArray)(h:op≤15):op=15∨op=14∨op=12∨op=13∨op=10∨(op=11∧A.toList.isEmpty=true)∨(op=11∧A.toList.isEmpty=false∧(A.toList == [48])=true)∨(op=11∧A.toList.isEmpty=false∧(A.toList == [48])=false)∨op≤9:=by
 by_cases e:op=11
 ·subst e
  cases A.toList.isEmpty<;>cases (A.toList == [48])<;>simp
 ·omega
theorem nU {s:List ByteArray}(h:∀ x∈s,x.size≤2000)(op:Nat):(ia op s).size≤2000∧(li op s).size≤2000:=by
 have g:∀ j,(s.getD j ⟨#[]⟩).size≤2000:=fun j=>by
  rw [List.getD_eq_getElem?_getD]
  rcases hj:s[j]? with _ | x
  ·exact Nat.zero_le _
  ·exact h x (List.mem_of_getElem? hj)
 refine ⟨?_,?_⟩
 ·unfold ia
  split
  ·exact g 0
  ·exact Nat.zero_le _
 ·unfold li
  split
  ·exact g 1
  ·exact Nat.zero_le _
theorem ut (op k:Nat)(t:ByteArray)(s:List ByteArray)(y:Nat→aw)(n place st looks:Nat)(h1:1≤op)(h11:op≤11)(hb:aB op≤s.length)(ht:t.size≤2000)(hle:∀ x∈s,x.size≤2000) :
  fk y n place st looks (bY op k t place looks s)=eK (bB op k t (ia op s) (li op s)) (cH place) (s.drop (aB op)) (iX op k (ia op s) place) st looks:=by
 have hA:=(nU hle op).1
 have hB:=(nU hle op).2
 by_cases h2:op=2
 ·subst h2
  match s,hb with
  | x :: z :: r,_=>exact wL k t x z r y n place st looks
 ·rw [rm op k t _ _ _ _ _ _ _ h1 h11 h2 ht hA hB]
  rcases (show op=1∨op=3∨op=4∨op=5∨op=6∨op=7∨op=8∨op=9∨op=10∨op=11 by omega) with rfl | rfl | rfl | rfl | rfl | rfl | rfl | rfl | rfl | rfl
  ·rfl
  iterate 3
   ·match s,hb with
    | x :: r,_=>rfl
  ·match s,hb with
   | x :: z :: r,_=>rfl
  ·match s,hb with
   | x :: r,_=>rfl
  ·match s,hb with
   | x :: z :: r,_=>rfl
  ·match s,hb with
   | x :: r,_=>rfl
  ·rfl
  ·match s,hb with
   | x :: r,_ =>
    show fk y n place st looks (bY 11 k t place looks (x :: r))=.inl (iX 11 k x place,st,looks,r)
    simp only [bY,fk,iX,show ((11:Nat)=10)=False by simp,if_false,true_and]
theorem vJ (op k:Nat)(t:ByteArray)(s:List ByteArray)(y:Nat→aw)(n place st looks:Nat)(h:op=12∨op=13)(hb:aB op≤s.length) :
  fk y n place st looks (bY op k t place looks s)=iW y n op (cH place) (ia op s) (s.drop (aB op)) (place+1) st looks:=by
 rcases h with rfl | rfl
 ·match s,hb with
  | x :: r,_=>exact pE 12 y n place st looks x r true rfl
 ·match s,hb with
  | x :: r,_=>exact pE 13 y n place st looks x r false rfl
theorem pF (op k:Nat)(t:ByteArray)(s:List ByteArray)(y:Nat→aw)(n place st looks:Nat)(h:op=14∨op=15)(hb:aB op≤s.length) :
  fk y n place st looks (bY op k t place looks s)=.inr (.inl (15 - (op:Int),ia op s,st)):=by
 rcases h with rfl | rfl
 ·match s,hb with
  | x :: r,_=>rfl
 ·match s,hb with
  | x :: r,_=>rfl
end Go.Proofs.YtkophfgkcijjkaaGreatDoor.Vp
