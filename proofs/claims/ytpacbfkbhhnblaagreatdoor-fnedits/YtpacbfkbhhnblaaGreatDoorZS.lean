import Derived.Test.YtpacbfkbhhnblaaGreatDoorZR
import Derived.Deep.DeepCutAuto
import Derived.Test.YtpacbfkbhhnblaaGreatDoorZC
set_option maxRecDepth 100000
set_option maxHeartbeats 8000000
namespace Go.Proofs.YtpacbfkbhhnblaaGreatDoor.Vp
open Go.RowKit
theorem l1Value_s (d nb nc:Nat)(hd3:(d:Int)≤10)(hb:nb≤44)(hb4:4≤nb)(hc:nc≤200)(hc14:14≤nc)(IH:∀ (R p:Nat) (at_:Int) (w:World),Rd w R p→p+nc≤30000→0≤at_→at_+(nb:Int)≤10000→Calls Tryz.prog 132 #[.pointer (some ⟨R,0,none⟩),.int .i64 at_,.int .i64 (d:Int)] w fun e w'=>DI w R (p+nc) nb e w')(R p:Nat)(at_:Int)(w:World)(hR:Rd w R p)(hp:p+(3*nc+14)≤30000)(ha0:0≤at_)(ha1:at_+((3*nb+2:Nat):Int)≤10000) :
  Calls Tryz.prog 132 #[.pointer (some ⟨R,0,none⟩),.int .i64 at_,.int .i64 ((d:Int)+1)] w fun e w'=>DI w R (p+(3*nc+14)) (3*nb+2) e w':=by
 have hRb:=hR.lt
 have A0:=(Below.refl w.heap.size w).alloc lr (.cells #[] 129)
 have I0:=hide (IR.lit w)
 have R0:=hide (hR.below A0 lr)
 have O0:Hid (Only R w (w.alloc (.cells #[] 129))):=Only.of_below A0
 clear A0 hR
 go_enter Tryz.func132,Tryz.ntmps132
 go_wp2_with fail
 generalize w.alloc (.cells #[] 129)=W0 at I0 R0 O0 ⊢
 refine (pick_any R _ 12 _ R0.out (by omega) (by omega) (by omega)).mono ?_
 rintro e W1 ⟨z,rfl,z0,z1,hR,hO⟩
 obtain ⟨q1,hq1⟩:∃ q1,q1=p+1:=⟨_,rfl⟩
 rw [← hq1] at hR
 have I1:=hide (I0.out.only hO hRb)
 have R1:=hide hR
 have O1:=hide (O0.out.trans hO)
 clear hO hR I0 R0 O0
 have hd:¬ ((d:Int)+1≤0):=by omega
 have T0:Hid (∀ i∈([]:List I3),i.2.1.length≤5000):=fun i hi=>by cases hi
 rcases (show z=0∨z=1∨z=2∨z=3∨z=4∨z=5∨z=6∨z=7∨z=8∨z=9∨z=10∨z=11 by omega) with rfl | rfl | rfl | rfl | rfl | rfl | rfl | rfl | rfl | rfl | rfl | rfl
 ·go_wp2_with fail
  refine (l1Text_any R _ _ R1.out (by omega)).mono ?_
  rintro e W2 ⟨t,rfl,ht,q2,hq2,hR,hO⟩
  have I2:=hide (I1.out.only hO hRb)
  have R2:=hide hR
  have O2:=hide (O1.out.trans hO)
  clear hO hR
  go_wp2_with fail
  refine (l1Lit_any t _).mono ?_
  rintro e W3 ⟨rfl,hB⟩
  obtain ⟨q3,hq3⟩:∃ q3,q3=q2:=⟨_,rfl⟩
  rw [← hq3] at R2
  have I3:=hide (I2.out.below hB lr)
  have R3:=hide (R2.out.below hB lr)
  have O3:=hide (O2.out.trans (Only.of_below hB))
  clear hB
  have X3:=hide (I3.out.below ((Below.refl W3.heap.size W3).alloc lr (.cells #[.int .i64 1,.string t,.int .i64 0] 129)) lr)
  go_wp2_with (at_builtin;refine wp_appI rfl (.tmp 26) (.tmp 30) rfl w.heap.size w.heap.size 0 [] (by simp [Act.eval]) X3.out ⟨W3.heap.size,0,none⟩ 1 1 [(1,t.data.toList,0)] (by simp [Act.eval]) rfl (by simp) (new_cells W3 #[.int .i64 1,.string t,.int .i64 0] _) (by simp only [List.length_cons,List.length_nil];omega) (by have:=O3.out.size;simp;omega) ?_)
  intro g9 c9 w9 hI hG
  have BG:=Below.grown ((Below.refl w.heap.size W3).alloc O3.out.size (.cells #[.int .i64 1,.string t,.int .i64 0] 129)) hG (by have:=O3.out.size;simp;omega) (fun k e=>by have:=I3.out.lt;simp at e;omega)
  have I9:=hide hI
  have R9:=hide (R3.out.low BG hRb)
  have O9:=hide (O3.out.then BG)
  clear hI hG BG
  go_wp2
  go_ret
  refine ⟨_,g9,c9,rfl,I9.out,by simp,by simp only [List.length_cons,List.length_nil];omega,?_,q3,by omega,R9.out,O9.out⟩
  intro i hi
  simp only [List.mem_cons,List.not_mem_nil,or_false] at hi
  subst hi
  show t.data.toList.length≤5000
  rw [Array.length_toList]
  show t.size≤5000
  omega
 ·go_wp2_with fail
  refine (l1Text_any R _ _ R1.out (by omega)).mono ?_
  rintro e W2 ⟨t,rfl,ht,q2,hq2,hR,hO⟩
  have I2:=hide (I1.out.only hO hRb)
  have R2:=hide hR
  have O2:=hide (O1.out.trans hO)
  clear hO hR
  go_wp2_with fail
  refine (l1Lit_any t _).mono ?_
  rintro e W3 ⟨rfl,hB⟩
  obtain ⟨q3,hq3⟩:∃ q3,q3=q2:=⟨_,rfl⟩
  rw [← hq3] at R2
  have I3:=hide (I2.out.below hB lr)
  have R3:=hide (R2.out.below hB lr)
  have O3:=hide (O2.out.trans (Only.of_below hB))
  clear hB
  have X3:=hide (I3.out.below ((Below.refl W3.heap.size W3).alloc lr (.cells #[.int .i64 1,.string t,.int .i64 0] 129)) lr)
  go_wp2_with (at_builtin;refine wp_appI rfl (.tmp 26) (.tmp 30) rfl w.heap.size w.heap.size 0 [] (by simp [Act.eval]) X3.out ⟨W3.heap.size,0,none⟩ 1 1 [(1,t.data.toList,0)] (by simp [Act.eval]) rfl (by simp) (new_cells W3 #[.int .i64 1,.string t,.int .i64 0] _) (by simp only [List.length_cons,List.length_nil];omega) (by have:=O3.out.size;simp;omega) ?_)
  intro g9 c9 w9 hI hG
  have BG:=Below.grown ((Below.refl w.heap.size W3).alloc O3.out.size (.cells #[.int .i64 1,.string t,.int .i64 0] 129)) hG (by have:=O3.out.size;simp;omega) (fun k e=>by have:=I3.out.lt;simp at e;omega)
  have I9:=hide hI
  have R9:=hide (R3.out.low BG hRb)
  have O9:=hide (O3.out.then BG)
  clear hI hG BG
  go_wp2
  go_ret
  refine ⟨_,g9,c9,rfl,I9.out,by simp,by simp only [List.length_cons,List.length_nil];omega,?_,q3,by omega,R9.out,O9.out⟩
  intro i hi
  simp only [List.mem_cons,List.not_mem_nil,or_false] at hi
  subst hi
  show t.data.toList.length≤5000
  rw [Array.length_toList]
  show t.size≤5000
  omega
 ·go_wp2_with fail
  refine (l1Name_any R _ _ R1.out (by omega)).mono ?_
  rintro e W2 ⟨t,rfl,ht,hR,hO⟩
  obtain ⟨q2,hq2⟩:∃ q2,q2=q1+1:=⟨_,rfl⟩
  rw [← hq2] at hR
  have I2:=hide (I1.out.only hO hRb)
  have R2:=hide hR
  have O2:=hide (O1.out.trans hO)
  clear hO hR
  go_wp2_with fail
  refine (l1Lit_any t _).mono ?_
  rintro e W3 ⟨rfl,hB⟩
  obtain ⟨q3,hq3⟩:∃ q3,q3=q2:=⟨_,rfl⟩
  rw [← hq3] at R2
  have I3:=hide (I2.out.below hB lr)
  have R3:=hide (R2.out.below hB lr)
  have O3:=hide (O2.out.trans (Only.of_below hB))
  clear hB
  go_wp2_with fail
  refine (l1Op_any 12 _).mono ?_
  rintro e W4 ⟨rfl,hB⟩
  obtain ⟨q4,hq4⟩:∃ q4,q4=q3:=⟨_,rfl⟩
  rw [← hq4] at R3
  have I4:=hide (I3.out.below hB lr)
  have R4:=hide (R3.out.below hB lr)
  have O4:=hide (O3.out.trans (Only.of_below hB))
  clear hB
  have X4:=hide (I4.out.below ((Below.refl W4.heap.size W4).alloc lr (.cells #[.int .i64 1,.string t,.int .i64 0,.int .i64 12,.string ⟨#[]⟩,.int .i64 0] 129)) lr)
  go_wp2_with (at_builtin;refine wp_appI rfl (.tmp 36) (.tmp 41) rfl w.heap.size w.heap.size 0 [] (by simp [Act.eval]) X4.out ⟨W4.heap.size,0,none⟩ 2 2 [(1,t.data.toList,0),(12,[],0)] (by simp [Act.eval]) rfl (by simp) (new_cells W4 #[.int .i64 1,.string t,.int .i64 0,.int .i64 12,.string ⟨#[]⟩,.int .i64 0] _) (by simp only [List.length_cons,List.length_nil];omega) (by have:=O4.out.size;simp;omega) ?_)
  intro g9 c9 w9 hI hG
  have BG:=Below.grown ((Below.refl w.heap.size W4).alloc O4.out.size (.cells #[.int .i64 1,.string t,.int .i64 0,.int .i64 12,.string ⟨#[]⟩,.int .i64 0] 129)) hG (by have:=O4.out.size;simp;omega) (fun k e=>by have:=I4.out.lt;simp at e;omega)
  have I9:=hide hI
  have R9:=hide (R4.out.low BG hRb)
  have O9:=hide (O4.out.then BG)
  clear hI hG BG
  go_wp2
  go_ret
  refine ⟨_,g9,c9,rfl,I9.out,by simp,by simp only [List.length_cons,List.length_nil];omega,?_,q4,by omega,R9.out,O9.out⟩
  intro i hi
  simp only [List.mem_cons,List.not_mem_nil,or_false] at hi
  rcases hi with rfl | rfl
  ·show t.data.toList.length≤5000;rw [Array.length_toList];show t.size≤5000;omega
  ·exact Nat.zero_le _
 ·go_wp2_with fail
  refine (l1Name_any R _ _ R1.out (by omega)).mono ?_
  rintro e W2 ⟨t,rfl,ht,hR,hO⟩
  obtain ⟨q2,hq2⟩:∃ q2,q2=q1+1:=⟨_,rfl⟩
  rw [← hq2] at hR
  have I2:=hide (I1.out.only hO hRb)
  have R2:=hide hR
  have O2:=hide (O1.out.trans hO)
  clear hO hR
  go_wp2_with fail
  refine (l1Lit_any t _).mono ?_
  rintro e W3 ⟨rfl,hB⟩
  obtain ⟨q3,hq3⟩:∃ q3,q3=q2:=⟨_,rfl⟩
  rw [← hq3] at R2
  have I3:=hide (I2.out.below hB lr)
  have R3:=hide (R2.out.below hB lr)
  have O3:=hide (O2.out.trans (Only.of_below hB))
  clear hB
  go_wp2_with fail
  refine (l1Op_any 12 _).mono ?_
  rintro e W4 ⟨rfl,hB⟩
  obtain ⟨q4,hq4⟩:∃ q4,q4=q3:=⟨_,rfl⟩
  rw [← hq4] at R3
  have I4:=hide (I3.out.below hB lr)
  have R4:=hide (R3.out.below hB lr)
  have O4:=hide (O3.out.trans (Only.of_below hB))
  clear hB
  have X4:=hide (I4.out.below ((Below.refl W4.heap.size W4).alloc lr (.cells #[.int .i64 1,.string t,.int .i64 0,.int .i64 12,.string ⟨#[]⟩,.int .i64 0] 129)) lr)
  go_wp2_with (at_builtin;refine wp_appI rfl (.tmp 36) (.tmp 41) rfl w.heap.size w.heap.size 0 [] (by simp [Act.eval]) X4.out ⟨W4.heap.size,0,none⟩ 2 2 [(1,t.data.toList,0),(12,[],0)] (by simp [Act.eval]) rfl (by simp) (new_cells W4 #[.int .i64 1,.string t,.int .i64 0,.int .i64 12,.string ⟨#[]⟩,.int .i64 0] _) (by simp only [List.length_cons,List.length_nil];omega) (by have:=O4.out.size;simp;omega) ?_)
  intro g9 c9 w9 hI hG
  have BG:=Below.grown ((Below.refl w.heap.size W4).alloc O4.out.size (.cells #[.int .i64 1,.string t,.int .i64 0,.int .i64 12,.string ⟨#[]⟩,.int .i64 0] 129)) hG (by have:=O4.out.size;simp;omega) (fun k e=>by have:=I4.out.lt;simp at e;omega)
  have I9:=hide hI
  have R9:=hide (R4.out.low BG hRb)
  have O9:=hide (O4.out.then BG)
  clear hI hG BG
  go_wp2
  go_ret
  refine ⟨_,g9,c9,rfl,I9.out,by simp,by simp only [List.length_cons,List.length_nil];omega,?_,q4,by omega,R9.out,O9.out⟩
  intro i hi
  simp only [List.mem_cons,List.not_mem_nil,or_false] at hi
  rcases hi with rfl | rfl
  ·show t.data.toList.length≤5000;rw [Array.length_toList];show t.size≤5000;omega
  ·exact Nat.zero_le _
 ·go_wp2_with fail
  refine (l1Name_any R _ _ R1.out (by omega)).mono ?_
  rintro e W2 ⟨t,rfl,ht,hR,hO⟩
  obtain ⟨q2,hq2⟩:∃ q2,q2=q1+1:=⟨_,rfl⟩
  rw [← hq2] at hR
  have I2:=hide (I1.out.only hO hRb)
  have R2:=hide hR
  have O2:=hide (O1.out.trans hO)
  clear hO hR
  go_wp2_with fail
  refine (l1Lit_any t _).mono ?_
  rintro e W3 ⟨rfl,hB⟩
  obtain ⟨q3,hq3⟩:∃ q3,q3=q2:=⟨_,rfl⟩
  rw [← hq3] at R2
  have I3:=hide (I2.out.below hB lr)
  have R3:=hide (R2.out.below hB lr)
  have O3:=hide (O2.out.trans (Only.of_below hB))
  clear hB
  go_wp2_with fail
  refine (l1Op_any 12 _).mono ?_
  rintro e W4 ⟨rfl,hB⟩
  obtain ⟨q4,hq4⟩:∃ q4,q4=q3:=⟨_,rfl⟩
  rw [← hq4] at R3
  have I4:=hide (I3.out.below hB lr)
  have R4:=hide (R3.out.below hB lr)
  have O4:=hide (O3.out.trans (Only.of_below hB))
  clear hB
  have X4:=hide (I4.out.below ((Below.refl W4.heap.size W4).alloc lr (.cells #[.int .i64 1,.string t,.int .i64 0,.int .i64 12,.string ⟨#[]⟩,.int .i64 0] 129)) lr)
  go_wp2_with (at_builtin;refine wp_appI rfl (.tmp 36) (.tmp 41) rfl w.heap.size w.heap.size 0 [] (by simp [Act.eval]) X4.out ⟨W4.heap.size,0,none⟩ 2 2 [(1,t.data.toList,0),(12,[],0)] (by simp [Act.eval]) rfl (by simp) (new_cells W4 #[.int .i64 1,.string t,.int .i64 0,.int .i64 12,.string ⟨#[]⟩,.int .i64 0] _) (by simp only [List.length_cons,List.length_nil];omega) (by have:=O4.out.size;simp;omega) ?_)
  intro g9 c9 w9 hI hG
  have BG:=Below.grown ((Below.refl w.heap.size W4).alloc O4.out.size (.cells #[.int .i64 1,.string t,.int .i64 0,.int .i64 12,.string ⟨#[]⟩,.int .i64 0] 129)) hG (by have:=O4.out.size;simp;omega) (fun k e=>by have:=I4.out.lt;simp at e;omega)
  have I9:=hide hI
  have R9:=hide (R4.out.low BG hRb)
  have O9:=hide (O4.out.then BG)
  clear hI hG BG
  go_wp2
  go_ret
  refine ⟨_,g9,c9,rfl,I9.out,by simp,by simp only [List.length_cons,List.length_nil];omega,?_,q4,by omega,R9.out,O9.out⟩
  intro i hi
  simp only [List.mem_cons,List.not_mem_nil,or_false] at hi
  rcases hi with rfl | rfl
  ·show t.data.toList.length≤5000;rw [Array.length_toList];show t.size≤5000;omega
  ·exact Nat.zero_le _
 ·go_wp2_with fail
  refine (l1Name_any R _ _ R1.out (by omega)).mono ?_
  rintro e W2 ⟨t,rfl,ht,hR,hO⟩
  obtain ⟨q2,hq2⟩:∃ q2,q2=q1+1:=⟨_,rfl⟩
  rw [← hq2] at hR
  have I2:=hide (I1.out.only hO hRb)
  have R2:=hide hR
  have O2:=hide (O1.out.trans hO)
  clear hO hR
  go_wp2_with fail
  refine (l1Lit_any t _).mono ?_
  rintro e W3 ⟨rfl,hB⟩
  obtain ⟨q3,hq3⟩:∃ q3,q3=q2:=⟨_,rfl⟩
  rw [← hq3] at R2
  have I3:=hide (I2.out.below hB lr)
  have R3:=hide (R2.out.below hB lr)
  have O3:=hide (O2.out.trans (Only.of_below hB))
  clear hB
  go_wp2_with fail
  refine (l1Op_any 12 _).mono ?_
  rintro e W4 ⟨rfl,hB⟩
  obtain ⟨q4,hq4⟩:∃ q4,q4=q3:=⟨_,rfl⟩
  rw [← hq4] at R3
  have I4:=hide (I3.out.below hB lr)
  have R4:=hide (R3.out.below hB lr)
  have O4:=hide (O3.out.trans (Only.of_below hB))
  clear hB
  go_wp2_with fail
  refine (pick_any R _ 3 _ R4.out (by omega) (by omega) (by omega)).mono ?_
  rintro e W5 ⟨y,rfl,y0,y1,hR,hO⟩
  obtain ⟨q5,hq5⟩:∃ q5,q5=q4+1:=⟨_,rfl⟩
  rw [← hq5] at hR
  have I5:=hide (I4.out.only hO hRb)
  have R5:=hide hR
  have O5:=hide (O4.out.trans hO)
  clear hO hR
  go_wp2_with fail
  refine (l1OpN_any 5 y _).mono ?_
  rintro e W6 ⟨rfl,hB⟩
  obtain ⟨q6,hq6⟩:∃ q6,q6=q5:=⟨_,rfl⟩
  rw [← hq6] at R5
  have I6:=hide (I5.out.below hB lr)
  have R6:=hide (R5.out.below hB lr)
  have O6:=hide (O5.out.trans (Only.of_below hB))
  clear hB
  go_wp2_with fail
  refine (l1Op_any 12 _).mono ?_
  rintro e W7 ⟨rfl,hB⟩
  obtain ⟨q7,hq7⟩:∃ q7,q7=q6:=⟨_,rfl⟩
  rw [← hq7] at R6
  have I7:=hide (I6.out.below hB lr)
  have R7:=hide (R6.out.below hB lr)
  have O7:=hide (O6.out.trans (Only.of_below hB))
  clear hB
  have X7:=hide (I7.out.below ((Below.refl W7.heap.size W7).alloc lr (.cells #[.int .i64 1,.string t,.int .i64 0,.int .i64 12,.string ⟨#[]⟩,.int .i64 0,.int .i64 5,.string ⟨#[]⟩,.int .i64 y,.int .i64 12,.string ⟨#[]⟩,.int .i64 0] 129)) lr)
  go_wp2_with (at_builtin;refine wp_appI rfl (.tmp 45) (.tmp 54) rfl w.heap.size w.heap.size 0 [] (by simp [Act.eval]) X7.out ⟨W7.heap.size,0,none⟩ 4 4 [(1,t.data.toList,0),(12,[],0),(5,[],y),(12,[],0)] (by simp [Act.eval]) rfl (by simp) (new_cells W7 #[.int .i64 1,.string t,.int .i64 0,.int .i64 12,.string ⟨#[]⟩,.int .i64 0,.int .i64 5,.string ⟨#[]⟩,.int .i64 y,.int .i64 12,.string ⟨#[]⟩,.int .i64 0] _) (by simp only [List.length_cons,List.length_nil];omega) (by have:=O7.out.size;simp;omega) ?_)
  intro g9 c9 w9 hI hG
  have BG:=Below.grown ((Below.refl w.heap.size W7).alloc O7.out.size (.cells #[.int .i64 1,.string t,.int .i64 0,.int .i64 12,.string ⟨#[]⟩,.int .i64 0,.int .i64 5,.string ⟨#[]⟩,.int .i64 y,.int .i64 12,.string ⟨#[]⟩,.int .i64 0] 129)) hG (by have:=O7.out.size;simp;omega) (fun k e=>by have:=I7.out.lt;simp at e;omega)
  have I9:=hide hI
  have R9:=hide (R7.out.low BG hRb)
  have O9:=hide (O7.out.then BG)
  clear hI hG BG
  go_wp2
  go_ret
  refine ⟨_,g9,c9,rfl,I9.out,by simp,by simp only [List.length_cons,List.length_nil];omega,?_,q7,by omega,R9.out,O9.out⟩
  intro i hi
  simp only [List.mem_cons,List.not_mem_nil,or_false] at hi
  rcases hi with rfl | rfl | rfl | rfl
  ·show t.data.toList.length≤5000;rw [Array.length_toList];show t.size≤5000;omega
  ·exact Nat.zero_le _
  ·exact Nat.zero_le _
  ·exact Nat.zero_le _
 ·go_wp2_with fail
  refine (l1Name_any R _ _ R1.out (by omega)).mono ?_
  rintro e W2 ⟨t,rfl,ht,hR,hO⟩
  obtain ⟨q2,hq2⟩:∃ q2,q2=q1+1:=⟨_,rfl⟩
  rw [← hq2] at hR
  have I2:=hide (I1.out.only hO hRb)
  have R2:=hide hR
  have O2:=hide (O1.out.trans hO)
  clear hO hR
  go_wp2_with fail
  refine (l1Lit_any t _).mono ?_
  rintro e W3 ⟨rfl,hB⟩
  obtain ⟨q3,hq3⟩:∃ q3,q3=q2:=⟨_,rfl⟩
  rw [← hq3] at R2
  have I3:=hide (I2.out.below hB lr)
  have R3:=hide (R2.out.below hB lr)
  have O3:=hide (O2.out.trans (Only.of_below hB))
  clear hB
  go_wp2_with fail
  refine (l1Op_any 13 _).mono ?_
  rintro e W4 ⟨rfl,hB⟩
  obtain ⟨q4,hq4⟩:∃ q4,q4=q3:=⟨_,rfl⟩
  rw [← hq4] at R3
  have I4:=hide (I3.out.below hB lr)
  have R4:=hide (R3.out.below hB lr)
  have O4:=hide (O3.out.trans (Only.of_below hB))
  clear hB
  have X4:=hide (I4.out.below ((Below.refl W4.heap.size W4).alloc lr (.cells #[.int .i64 1,.string t,.int .i64 0,.int .i64 13,.string ⟨#[]⟩,.int .i64 0] 129)) lr)
  go_wp2_with (at_builtin;refine wp_appI rfl (.tmp 58) (.tmp 63) rfl w.heap.size w.heap.size 0 [] (by simp [Act.eval]) X4.out ⟨W4.heap.size,0,none⟩ 2 2 [(1,t.data.toList,0),(13,[],0)] (by simp [Act.eval]) rfl (by simp) (new_cells W4 #[.int .i64 1,.string t,.int .i64 0,.int .i64 13,.string ⟨#[]⟩,.int .i64 0] _) (by simp only [List.length_cons,List.length_nil];omega) (by have:=O4.out.size;simp;omega) ?_)
  intro g9 c9 w9 hI hG
  have BG:=Below.grown ((Below.refl w.heap.size W4).alloc O4.out.size (.cells #[.int .i64 1,.string t,.int .i64 0,.int .i64 13,.string ⟨#[]⟩,.int .i64 0] 129)) hG (by have:=O4.out.size;simp;omega) (fun k e=>by have:=I4.out.lt;simp at e;omega)
  have I9:=hide hI
  have R9:=hide (R4.out.low BG hRb)
  have O9:=hide (O4.out.then BG)
  clear hI hG BG
  go_wp2
  go_ret
  refine ⟨_,g9,c9,rfl,I9.out,by simp,by simp only [List.length_cons,List.length_nil];omega,?_,q4,by omega,R9.out,O9.out⟩
  intro i hi
  simp only [List.mem_cons,List.not_mem_nil,or_false] at hi
  rcases hi with rfl | rfl
  ·show t.data.toList.length≤5000;rw [Array.length_toList];show t.size≤5000;omega
  ·exact Nat.zero_le _
 ·go_wp2_with fail
  refine (IH R q1 at_ W1 R1.out (by omega) (by omega) (by omega)).mono ?_
  rintro e W2 ⟨M,gM,cM,rfl,hM,hMne,hMn,hMt,q2,hq2,hR,hO⟩
  have I2:=hide (I1.out.only hO hRb)
  have J2:=hide hM
  have R2:=hide hR
  have O2:=hide (O1.out.trans hO)
  have HMT:=hide hMt
  have HMN:=hide hMne
  clear hO hR hM hMt hMne
  go_wp2_with (at_builtin;refine wp_appI rfl (.tmp 67) (.tmp 72) rfl w.heap.size w.heap.size 0 [] (by simp [Act.eval]) I2.out ⟨gM,0,none⟩ M.length cM M (by simp [Act.eval]) rfl HMN.out J2.out.news (by first | omega | (simp only [List.length_nil];omega)) O2.out.size ?_)
  intro g1 c1 W3 hI hG
  have BG:=Below.grown (Below.refl w.heap.size W2) hG O2.out.size (fun k e=>by have:=I2.out.lt;simp at e;omega)
  obtain ⟨L1,hL⟩:∃ L1,L1=M:=⟨_,rfl⟩
  rw [← hL] at hI ⊢
  have hn1:L1.length=0+M.length:=by rw [hL];omega
  have T1:Hid (∀ i∈L1,i.2.1.length≤5000):=fun i hi=>by
   rw [hL] at hi
   exact HMT.out i hi
  have hp1:0<L1.length:=by have:=List.length_pos_iff.2 HMN.out;omega
  have I3:=hide hI
  have R3:=hide (R2.out.low BG hRb)
  have O3:=hide (O2.out.then BG)
  obtain ⟨q3,hq3⟩:∃ q3,q3=q2:=⟨_,rfl⟩
  rw [← hq3] at R3
  have lb1:L1.length≤nb:=by omega
  have le1:0≤L1.length:=by omega
  clear hI hG BG hL hn1 HMT HMN J2
  go_wp2_with fail
  refine (IH R q3 (at_+(L1.length:Int)) W3 R3.out (by omega) (by omega) (by omega)).mono ?_
  rintro e W4 ⟨M,gM,cM,rfl,hM,hMne,hMn,hMt,q4,hq4,hR,hO⟩
  have I4:=hide (I3.out.only hO hRb)
  have J4:=hide hM
  have R4:=hide hR
  have O4:=hide (O3.out.trans hO)
  have HMT:=hide hMt
  have HMN:=hide hMne
  clear hO hR hM hMt hMne
  go_wp2_with (at_builtin;refine wp_appI rfl (.tmp 74) (.tmp 82) rfl w.heap.size g1 c1 L1 (by simp [Act.eval]) I4.out ⟨gM,0,none⟩ M.length cM M (by simp [Act.eval]) rfl HMN.out J4.out.news (by first | omega | (simp only [List.length_nil];omega)) O4.out.size ?_)
  intro g2 c2 W5 hI hG
  have BG:=Below.grown (Below.refl w.heap.size W4) hG O4.out.size (fun k e=>by have:=I4.out.lt;simp at e;omega)
  obtain ⟨L2,hL⟩:∃ L2,L2=L1++M:=⟨_,rfl⟩
  rw [← hL] at hI
  have hn2:L2.length=L1.length+M.length:=by rw [hL,List.length_append]
  rw [← hn2]
  have T2:Hid (∀ i∈L2,i.2.1.length≤5000):=fun i hi=>by
   rw [hL] at hi
   rcases List.mem_append.1 hi with hi | hi
   ·exact T1.out i hi
   ·exact HMT.out i hi
  have hp2:0<L2.length:=by have:=List.length_pos_iff.2 HMN.out;omega
  have I5:=hide hI
  have R5:=hide (R4.out.low BG hRb)
  have O5:=hide (O4.out.then BG)
  obtain ⟨q5,hq5⟩:∃ q5,q5=q4:=⟨_,rfl⟩
  rw [← hq5] at R5
  have lb2:L2.length≤2*nb:=by omega
  have le2:L1.length≤L2.length:=by omega
  clear hI hG BG hL hn2 HMT HMN J4
  go_wp2_with fail
  refine (pick_any R _ 2 _ R5.out (by omega) (by omega) (by omega)).mono ?_
  rintro e W6 ⟨y,rfl,y0,y1,hR,hO⟩
  obtain ⟨q6,hq6⟩:∃ q6,q6=q5+1:=⟨_,rfl⟩
  rw [← hq6] at hR
  have I6:=hide (I5.out.only hO hRb)
  have R6:=hide hR
  have O6:=hide (O5.out.trans hO)
  clear hO hR
  go_wp2_with fail
  refine (l1Op_any (2+4*y) _).mono ?_
  rintro e W7 ⟨rfl,hB⟩
  obtain ⟨q7,hq7⟩:∃ q7,q7=q6:=⟨_,rfl⟩
  rw [← hq7] at R6
  have I7:=hide (I6.out.below hB lr)
  have R7:=hide (R6.out.below hB lr)
  have O7:=hide (O6.out.trans (Only.of_below hB))
  clear hB
  have X7:=hide (I7.out.below ((Below.refl W7.heap.size W7).alloc lr (.cells #[.int .i64 (2+4*y),.string ⟨#[]⟩,.int .i64 0] 129)) lr)
  go_wp2_with (at_builtin;refine wp_appI rfl (.tmp 84) (.tmp 90) rfl w.heap.size g2 c2 L2 (by simp [Act.eval]) X7.out ⟨W7.heap.size,0,none⟩ 1 1 [(2+4*y,[],0)] (by simp [Act.eval]) rfl (by simp) (new_cells W7 #[.int .i64 (2+4*y),.string ⟨#[]⟩,.int .i64 0] _) (by simp only [List.length_cons,List.length_nil];omega) (by have:=O7.out.size;simp;omega) ?_)
  intro g3 c3 W8 hI hG
  have BG:=Below.grown ((Below.refl w.heap.size W7).alloc O7.out.size (.cells #[.int .i64 (2+4*y),.string ⟨#[]⟩,.int .i64 0] 129)) hG (by have:=O7.out.size;simp;omega) (fun k e=>by have:=I7.out.lt;simp at e;omega)
  obtain ⟨L3,hL⟩:∃ L3,L3=L2++[(2+4*y,[],0)]:=⟨_,rfl⟩
  rw [← hL] at hI
  have hn3:L3.length=L2.length+1:=by rw [hL,List.length_append];rfl
  rw [← hn3]
  have T3:Hid (∀ i∈L3,i.2.1.length≤5000):=fun i hi=>by
   rw [hL] at hi
   rcases List.mem_append.1 hi with hi | hi
   ·exact T2.out i hi
   ·rw [List.mem_singleton.1 hi];exact Nat.zero_le _
  have I8:=hide hI
  have R8:=hide (R7.out.low BG hRb)
  have O8:=hide (O7.out.then BG)
  obtain ⟨q8,hq8⟩:∃ q8,q8=q7:=⟨_,rfl⟩
  rw [← hq8] at R8
  have hp3:0<L3.length:=by omega
  have lb3:L3.length≤2*nb+1:=by omega
  have le3:L2.length<L3.length:=by omega
  clear hI hG BG hL hn3
  go_wp2
  go_ret
  exact ⟨L3,g3,c3,rfl,I8.out,List.length_pos_iff.1 hp3,by omega,T3.out,q8,by omega,R8.out,O8.out⟩
 ·go_wp2_with fail
  refine (IH R q1 at_ W1 R1.out (by omega) (by omega) (by omega)).mono ?_
  rintro e W2 ⟨M,gM,cM,rfl,hM,hMne,hMn,hMt,q2,hq2,hR,hO⟩
  have I2:=hide (I1.out.only hO hRb)
  have J2:=hide hM
  have R2:=hide hR
  have O2:=hide (O1.out.trans hO)
  have HMT:=hide hMt
  have HMN:=hide hMne
  clear hO hR hM hMt hMne
  go_wp2_with (at_builtin;refine wp_appI rfl (.tmp 94) (.tmp 99) rfl w.heap.size w.heap.size 0 [] (by simp [Act.eval]) I2.out ⟨gM,0,none⟩ M.length cM M (by simp [Act.eval]) rfl HMN.out J2.out.news (by first | omega | (simp only [List.length_nil];omega)) O2.out.size ?_)
  intro g1 c1 W3 hI hG
  have BG:=Below.grown (Below.refl w.heap.size W2) hG O2.out.size (fun k e=>by have:=I2.out.lt;simp at e;omega)
  obtain ⟨L1,hL⟩:∃ L1,L1=M:=⟨_,rfl⟩
  rw [← hL] at hI ⊢
  have hn1:L1.length=0+M.length:=by rw [hL];omega
  have T1:Hid (∀ i∈L1,i.2.1.length≤5000):=fun i hi=>by
   rw [hL] at hi
   exact HMT.out i hi
  have hp1:0<L1.length:=by have:=List.length_pos_iff.2 HMN.out;omega
  have I3:=hide hI
  have R3:=hide (R2.out.low BG hRb)
  have O3:=hide (O2.out.then BG)
  obtain ⟨q3,hq3⟩:∃ q3,q3=q2:=⟨_,rfl⟩
  rw [← hq3] at R3
  have lb1:L1.length≤nb:=by omega
  have le1:0≤L1.length:=by omega
  clear hI hG BG hL hn1 HMT HMN J2
  go_wp2_with fail
  refine (pick_any R _ 3 _ R3.out (by omega) (by omega) (by omega)).mono ?_
  rintro e W4 ⟨x,rfl,x0,x1,hR,hO⟩
  obtain ⟨q4,hq4⟩:∃ q4,q4=q3+1:=⟨_,rfl⟩
  rw [← hq4] at hR
  have I4:=hide (I3.out.only hO hRb)
  have R4:=hide hR
  have O4:=hide (O3.out.trans hO)
  clear hO hR
  go_wp2_with fail
  refine (pick_any R _ 4 _ R4.out (by omega) (by omega) (by omega)).mono ?_
  rintro e W5 ⟨y,rfl,y0,y1,hR,hO⟩
  obtain ⟨q5,hq5⟩:∃ q5,q5=q4+1:=⟨_,rfl⟩
  rw [← hq5] at hR
  have I5:=hide (I4.out.only hO hRb)
  have R5:=hide hR
  have O5:=hide (O4.out.trans hO)
  clear hO hR
  go_wp2_with fail
  refine (l1OpN_any (3+x) y _).mono ?_
  rintro e W6 ⟨rfl,hB⟩
  obtain ⟨q6,hq6⟩:∃ q6,q6=q5:=⟨_,rfl⟩
  rw [← hq6] at R5
  have I6:=hide (I5.out.below hB lr)
  have R6:=hide (R5.out.below hB lr)
  have O6:=hide (O5.out.trans (Only.of_below hB))
  clear hB
  have X6:=hide (I6.out.below ((Below.refl W6.heap.size W6).alloc lr (.cells #[.int .i64 (3+x),.string ⟨#[]⟩,.int .i64 y] 129)) lr)
  go_wp2_with (at_builtin;refine wp_appI rfl (.tmp 101) (.tmp 108) rfl w.heap.size g1 c1 L1 (by simp [Act.eval]) X6.out ⟨W6.heap.size,0,none⟩ 1 1 [(3+x,[],y)] (by simp [Act.eval]) rfl (by simp) (new_cells W6 #[.int .i64 (3+x),.string ⟨#[]⟩,.int .i64 y] _) (by simp only [List.length_cons,List.length_nil];omega) (by have:=O6.out.size;simp;omega) ?_)
  intro g2 c2 W7 hI hG
  have BG:=Below.grown ((Below.refl w.heap.size W6).alloc O6.out.size (.cells #[.int .i64 (3+x),.string ⟨#[]⟩,.int .i64 y] 129)) hG (by have:=O6.out.size;simp;omega) (fun k e=>by have:=I6.out.lt;simp at e;omega)
  obtain ⟨L2,hL⟩:∃ L2,L2=L1++[(3+x,[],y)]:=⟨_,rfl⟩
  rw [← hL] at hI
  have hn2:L2.length=L1.length+1:=by rw [hL,List.length_append];rfl
  rw [← hn2]
  have T2:Hid (∀ i∈L2,i.2.1.length≤5000):=fun i hi=>by
   rw [hL] at hi
   rcases List.mem_append.1 hi with hi | hi
   ·exact T1.out i hi
   ·rw [List.mem_singleton.1 hi];exact Nat.zero_le _
  have I7:=hide hI
  have R7:=hide (R6.out.low BG hRb)
  have O7:=hide (O6.out.then BG)
  obtain ⟨q7,hq7⟩:∃ q7,q7=q6:=⟨_,rfl⟩
  rw [← hq7] at R7
  have hp2:0<L2.length:=by omega
  have lb2:L2.length≤nb+1:=by omega
  have le2:L1.length<L2.length:=by omega
  clear hI hG BG hL hn2
  go_wp2
  go_ret
  exact ⟨L2,g2,c2,rfl,I7.out,List.length_pos_iff.1 hp2,by omega,T2.out,q7,by omega,R7.out,O7.out⟩
 ·go_wp2_with fail
  refine (IH R q1 at_ W1 R1.out (by omega) (by omega) (by omega)).mono ?_
  rintro e W2 ⟨M,gM,cM,rfl,hM,hMne,hMn,hMt,q2,hq2,hR,hO⟩
  have I2:=hide (I1.out.only hO hRb)
  have J2:=hide hM
  have R2:=hide hR
  have O2:=hide (O1.out.trans hO)
  have HMT:=hide hMt
  have HMN:=hide hMne
  clear hO hR hM hMt hMne
  go_wp2_with (at_builtin;refine wp_appI rfl (.tmp 113) (.tmp 118) rfl w.heap.size w.heap.size 0 [] (by simp [Act.eval]) I2.out ⟨gM,0,none⟩ M.length cM M (by simp [Act.eval]) rfl HMN.out J2.out.news (by first | omega | (simp only [List.length_nil];omega)) O2.out.size ?_)
  intro g1 c1 W3 hI hG
  have BG:=Below.grown (Below.refl w.heap.size W2) hG O2.out.size (fun k e=>by have:=I2.out.lt;simp at e;omega)
  obtain ⟨L1,hL⟩:∃ L1,L1=M:=⟨_,rfl⟩
  rw [← hL] at hI ⊢
  have hn1:L1.length=0+M.length:=by rw [hL];omega
  have T1:Hid (∀ i∈L1,i.2.1.length≤5000):=fun i hi=>by
   rw [hL] at hi
   exact HMT.out i hi
  have hp1:0<L1.length:=by have:=List.length_pos_iff.2 HMN.out;omega
  have I3:=hide hI
  have R3:=hide (R2.out.low BG hRb)
  have O3:=hide (O2.out.then BG)
  obtain ⟨q3,hq3⟩:∃ q3,q3=q2:=⟨_,rfl⟩
  rw [← hq3] at R3
  have lb1:L1.length≤nb:=by omega
  have le1:0≤L1.length:=by omega
  clear hI hG BG hL hn1 HMT HMN J2
  go_wp2_with fail
  refine (l1OpN_any 11 0 _).mono ?_
  rintro e W4 ⟨rfl,hB⟩
  obtain ⟨q4,hq4⟩:∃ q4,q4=q3:=⟨_,rfl⟩
  rw [← hq4] at R3
  have I4:=hide (I3.out.below hB lr)
  have R4:=hide (R3.out.below hB lr)
  have O4:=hide (O3.out.trans (Only.of_below hB))
  clear hB
  have X4:=hide (I4.out.below ((Below.refl W4.heap.size W4).alloc lr (.cells #[.int .i64 11,.string ⟨#[]⟩,.int .i64 0] 129)) lr)
  go_wp2_with (at_builtin;refine wp_appI rfl (.tmp 122) (.tmp 124) rfl w.heap.size g1 c1 L1 (by simp [Act.eval]) X4.out ⟨W4.heap.size,0,none⟩ 1 1 [(11,[],0)] (by simp [Act.eval]) rfl (by simp) (new_cells W4 #[.int .i64 11,.string ⟨#[]⟩,.int .i64 0] _) (by simp only [List.length_cons,List.length_nil];omega) (by have:=O4.out.size;simp;omega) ?_)
  intro g2 c2 W5 hI hG
  have BG:=Below.grown ((Below.refl w.heap.size W4).alloc O4.out.size (.cells #[.int .i64 11,.string ⟨#[]⟩,.int .i64 0] 129)) hG (by have:=O4.out.size;simp;omega) (fun k e=>by have:=I4.out.lt;simp at e;omega)
  obtain ⟨L2,hL⟩:∃ L2,L2=L1++[(11,[],0)]:=⟨_,rfl⟩
  rw [← hL] at hI
  have hn2:L2.length=L1.length+1:=by rw [hL,List.length_append];rfl
  rw [← hn2]
  have T2:Hid (∀ i∈L2,i.2.1.length≤5000):=fun i hi=>by
   rw [hL] at hi
   rcases List.mem_append.1 hi with hi | hi
   ·exact T1.out i hi
   ·rw [List.mem_singleton.1 hi];exact Nat.zero_le _
  have I5:=hide hI
  have R5:=hide (R4.out.low BG hRb)
  have O5:=hide (O4.out.then BG)
  obtain ⟨q5,hq5⟩:∃ q5,q5=q4:=⟨_,rfl⟩
  rw [← hq5] at R5
  have hp2:0<L2.length:=by omega
  have lb2:L2.length≤nb+1:=by omega
  have le2:L1.length<L2.length:=by omega
  clear hI hG BG hL hn2
  go_wp2_with fail
  refine (IH R q5 (at_+(L2.length:Int)) W5 R5.out (by omega) (by omega) (by omega)).mono ?_
  rintro e W6 ⟨M,gM,cM,rfl,hM,hMne,hMn,hMt,q6,hq6,hR,hO⟩
  have I6:=hide (I5.out.only hO hRb)
  have J6:=hide hM
  have R6:=hide hR
  have O6:=hide (O5.out.trans hO)
  have HMT:=hide hMt
  have HMN:=hide hMne
  clear hO hR hM hMt hMne
  go_wp2_with (at_builtin;refine wp_appI rfl (.tmp 126) (.tmp 134) rfl w.heap.size g2 c2 L2 (by simp [Act.eval]) I6.out ⟨gM,0,none⟩ M.length cM M (by simp [Act.eval]) rfl HMN.out J6.out.news (by first | omega | (simp only [List.length_nil];omega)) O6.out.size ?_)
  intro g3 c3 W7 hI hG
  have BG:=Below.grown (Below.refl w.heap.size W6) hG O6.out.size (fun k e=>by have:=I6.out.lt;simp at e;omega)
  obtain ⟨L3,hL⟩:∃ L3,L3=L2++M:=⟨_,rfl⟩
  rw [← hL] at hI
  have hn3:L3.length=L2.length+M.length:=by rw [hL,List.length_append]
  rw [← hn3]
  have T3:Hid (∀ i∈L3,i.2.1.length≤5000):=fun i hi=>by
   rw [hL] at hi
   rcases List.mem_append.1 hi with hi | hi
   ·exact T2.out i hi
   ·exact HMT.out i hi
  have hp3:0<L3.length:=by have:=List.length_pos_iff.2 HMN.out;omega
  have I7:=hide hI
  have R7:=hide (R6.out.low BG hRb)
  have O7:=hide (O6.out.then BG)
  obtain ⟨q7,hq7⟩:∃ q7,q7=q6:=⟨_,rfl⟩
  rw [← hq7] at R7
  have lb3:L3.length≤2*nb+1:=by omega
  have le3:L2.length≤L3.length:=by omega
  clear hI hG BG hL hn3 HMT HMN J6
  go_wp2_with fail
  refine (l1OpN_any 10 0 _).mono ?_
  rintro e W8 ⟨rfl,hB⟩
  obtain ⟨q8,hq8⟩:∃ q8,q8=q7:=⟨_,rfl⟩
  rw [← hq8] at R7
  have I8:=hide (I7.out.below hB lr)
  have R8:=hide (R7.out.below hB lr)
  have O8:=hide (O7.out.trans (Only.of_below hB))
  clear hB
  have X8:=hide (I8.out.below ((Below.refl W8.heap.size W8).alloc lr (.cells #[.int .i64 10,.string ⟨#[]⟩,.int .i64 0] 129)) lr)
  go_wp2_with (at_builtin;refine wp_appI rfl (.tmp 138) (.tmp 140) rfl w.heap.size g3 c3 L3 (by simp [Act.eval]) X8.out ⟨W8.heap.size,0,none⟩ 1 1 [(10,[],0)] (by simp [Act.eval]) rfl (by simp) (new_cells W8 #[.int .i64 10,.string ⟨#[]⟩,.int .i64 0] _) (by simp only [List.length_cons,List.length_nil];omega) (by have:=O8.out.size;simp;omega) ?_)
  intro g4 c4 W9 hI hG
  have BG:=Below.grown ((Below.refl w.heap.size W8).alloc O8.out.size (.cells #[.int .i64 10,.string ⟨#[]⟩,.int .i64 0] 129)) hG (by have:=O8.out.size;simp;omega) (fun k e=>by have:=I8.out.lt;simp at e;omega)
  obtain ⟨L4,hL⟩:∃ L4,L4=L3++[(10,[],0)]:=⟨_,rfl⟩
  rw [← hL] at hI
  have hn4:L4.length=L3.length+1:=by rw [hL,List.length_append];rfl
  rw [← hn4]
  have T4:Hid (∀ i∈L4,i.2.1.length≤5000):=fun i hi=>by
   rw [hL] at hi
   rcases List.mem_append.1 hi with hi | hi
   ·exact T3.out i hi
   ·rw [List.mem_singleton.1 hi];exact Nat.zero_le _
  have I9:=hide hI
  have R9:=hide (R8.out.low BG hRb)
  have O9:=hide (O8.out.then BG)
  obtain ⟨q9,hq9⟩:∃ q9,q9=q8:=⟨_,rfl⟩
  rw [← hq9] at R9
  have hp4:0<L4.length:=by omega
  have lb4:L4.length≤2*nb+2:=by omega
  have le4:L3.length<L4.length:=by omega
  clear hI hG BG hL hn4
  obtain ⟨⟨n0,cn⟩,fz⟩:=I9.out.cellN (i:=L1.length) (by omega)
  have il:(L1.length:Int)<(L4.length:Int):=by omega
  have gl:=I9.out.lt.2
  go_wp2_with fail
  refine (l1Small_any _ _).mono ?_
  rintro e Wx ⟨rfl,hw⟩
  rw [hw]
  clear hw
  generalize (if 200<at_+(L4.length:Int) then 200 else at_+(L4.length:Int))=sv
  obtain ⟨L5,hlk,htk,hI⟩:=I9.out.setN (i:=L1.length) (by omega) sv
  have BG:=(Below.refl w.heap.size W9).setCell (p:=⟨g4,L1.length*3+2,none⟩) I9.out.lt.1 (.int .i64 sv)
  go_upto_region 33 with fail
  have T5:=hide (htk T4.out)
  have I10:=hide hI
  have R10:=hide (R9.out.low BG hRb)
  have O10:=hide (O9.out.then BG)
  obtain ⟨q10,hq10⟩:∃ q10,q10=q9:=⟨_,rfl⟩
  rw [← hq10] at R10
  have hp5:0<L5.length:=by omega
  have lb5:L5.length≤2*nb+2:=by omega
  have le5:L4.length≤L5.length:=by omega
  obtain ⟨g5,hg5⟩:∃ g5,g5=g4:=⟨_,rfl⟩
  obtain ⟨c5,hc5⟩:∃ c5,c5=c4:=⟨_,rfl⟩
  generalize W9.setCell ⟨g4,L1.length*3+2,none⟩ (.int .i64 sv)=W10 at I10 R10 O10 ⊢
  rw [← hlk,← hg5,← hc5]
  rw [← hg5,← hc5] at I10
  clear hlk htk hI BG cn fz gl hg5 hc5 il
  go_wp2_with fail
  refine (IH R q10 (at_+(L5.length:Int)) W10 R10.out (by omega) (by omega) (by omega)).mono ?_
  rintro e W11 ⟨M,gM,cM,rfl,hM,hMne,hMn,hMt,q11,hq11,hR,hO⟩
  have I11:=hide (I10.out.only hO hRb)
  have J11:=hide hM
  have R11:=hide hR
  have O11:=hide (O10.out.trans hO)
  have HMT:=hide hMt
  have HMN:=hide hMne
  clear hO hR hM hMt hMne
  go_wp2_with (at_builtin;refine wp_appI rfl (.tmp 151) (.tmp 159) rfl w.heap.size g5 c5 L5 (by simp [Act.eval]) I11.out ⟨gM,0,none⟩ M.length cM M (by simp [Act.eval]) rfl HMN.out J11.out.news (by first | omega | (simp only [List.length_nil];omega)) O11.out.size ?_)
  intro g6 c6 W12 hI hG
  have BG:=Below.grown (Below.refl w.heap.size W11) hG O11.out.size (fun k e=>by have:=I11.out.lt;simp at e;omega)
  obtain ⟨L6,hL⟩:∃ L6,L6=L5++M:=⟨_,rfl⟩
  rw [← hL] at hI
  have hn6:L6.length=L5.length+M.length:=by rw [hL,List.length_append]
  rw [← hn6]
  have T6:Hid (∀ i∈L6,i.2.1.length≤5000):=fun i hi=>by
   rw [hL] at hi
   rcases List.mem_append.1 hi with hi | hi
   ·exact T5.out i hi
   ·exact HMT.out i hi
  have hp6:0<L6.length:=by have:=List.length_pos_iff.2 HMN.out;omega
  have I12:=hide hI
  have R12:=hide (R11.out.low BG hRb)
  have O12:=hide (O11.out.then BG)
  obtain ⟨q12,hq12⟩:∃ q12,q12=q11:=⟨_,rfl⟩
  rw [← hq12] at R12
  have lb6:L6.length≤3*nb+2:=by omega
  have le6:L5.length≤L6.length:=by omega
  clear hI hG BG hL hn6 HMT HMN J11
  obtain ⟨⟨n0,cn⟩,fz⟩:=I12.out.cellN (i:=L3.length) (by omega)
  have il:(L3.length:Int)<(L6.length:Int):=by omega
  have gl:=I12.out.lt.2
  go_wp2_with fail
  refine (l1Small_any _ _).mono ?_
  rintro e Wx ⟨rfl,hw⟩
  rw [hw]
  clear hw
  generalize (if 200<at_+(L6.length:Int) then 200 else at_+(L6.length:Int))=sv
  obtain ⟨L7,hlk,htk,hI⟩:=I12.out.setN (i:=L3.length) (by omega) sv
  have BG:=(Below.refl w.heap.size W12).setCell (p:=⟨g6,L3.length*3+2,none⟩) I12.out.lt.1 (.int .i64 sv)
  go_upto_region 35 with fail
  have T7:=hide (htk T6.out)
  have I13:=hide hI
  have R13:=hide (R12.out.low BG hRb)
  have O13:=hide (O12.out.then BG)
  obtain ⟨q13,hq13⟩:∃ q13,q13=q12:=⟨_,rfl⟩
  rw [← hq13] at R13
  have hp7:0<L7.length:=by omega
  have lb7:L7.length≤3*nb+2:=by omega
  have le7:L6.length≤L7.length:=by omega
  obtain ⟨g7,hg7⟩:∃ g7,g7=g6:=⟨_,rfl⟩
  obtain ⟨c7,hc7⟩:∃ c7,c7=c6:=⟨_,rfl⟩
  generalize W12.setCell ⟨g6,L3.length*3+2,none⟩ (.int .i64 sv)=W13 at I13 R13 O13 ⊢
  rw [← hlk,← hg7,← hc7]
  rw [← hg7,← hc7] at I13
  clear hlk htk hI BG cn fz gl hg7 hc7 il
  go_wp2
  go_ret
  exact ⟨L7,g7,c7,rfl,I13.out,List.length_pos_iff.1 hp7,by omega,T7.out,q13,by omega,R13.out,O13.out⟩
 ·go_wp2_with fail
  refine (IH R q1 at_ W1 R1.out (by omega) (by omega) (by omega)).mono ?_
  rintro e W2 ⟨M,gM,cM,rfl,hM,hMne,hMn,hMt,q2,hq2,hR,hO⟩
  have I2:=hide (I1.out.only hO hRb)
  have J2:=hide hM
  have R2:=hide hR
  have O2:=hide (O1.out.trans hO)
  have HMT:=hide hMt
  have HMN:=hide hMne
  clear hO hR hM hMt hMne
  go_wp2_with (at_builtin;refine wp_appI rfl (.tmp 113) (.tmp 118) rfl w.heap.size w.heap.size 0 [] (by simp [Act.eval]) I2.out ⟨gM,0,none⟩ M.length cM M (by simp [Act.eval]) rfl HMN.out J2.out.news (by first | omega | (simp only [List.length_nil];omega)) O2.out.size ?_)
  intro g1 c1 W3 hI hG
  have BG:=Below.grown (Below.refl w.heap.size W2) hG O2.out.size (fun k e=>by have:=I2.out.lt;simp at e;omega)
  obtain ⟨L1,hL⟩:∃ L1,L1=M:=⟨_,rfl⟩
  rw [← hL] at hI ⊢
  have hn1:L1.length=0+M.length:=by rw [hL];omega
  have T1:Hid (∀ i∈L1,i.2.1.length≤5000):=fun i hi=>by
   rw [hL] at hi
   exact HMT.out i hi
  have hp1:0<L1.length:=by have:=List.length_pos_iff.2 HMN.out;omega
  have I3:=hide hI
  have R3:=hide (R2.out.low BG hRb)
  have O3:=hide (O2.out.then BG)
  obtain ⟨q3,hq3⟩:∃ q3,q3=q2:=⟨_,rfl⟩
  rw [← hq3] at R3
  have lb1:L1.length≤nb:=by omega
  have le1:0≤L1.length:=by omega
  clear hI hG BG hL hn1 HMT HMN J2
  go_wp2_with fail
  refine (l1OpN_any 11 0 _).mono ?_
  rintro e W4 ⟨rfl,hB⟩
  obtain ⟨q4,hq4⟩:∃ q4,q4=q3:=⟨_,rfl⟩
  rw [← hq4] at R3
  have I4:=hide (I3.out.below hB lr)
  have R4:=hide (R3.out.below hB lr)
  have O4:=hide (O3.out.trans (Only.of_below hB))
  clear hB
  have X4:=hide (I4.out.below ((Below.refl W4.heap.size W4).alloc lr (.cells #[.int .i64 11,.string ⟨#[]⟩,.int .i64 0] 129)) lr)
  go_wp2_with (at_builtin;refine wp_appI rfl (.tmp 122) (.tmp 124) rfl w.heap.size g1 c1 L1 (by simp [Act.eval]) X4.out ⟨W4.heap.size,0,none⟩ 1 1 [(11,[],0)] (by simp [Act.eval]) rfl (by simp) (new_cells W4 #[.int .i64 11,.string ⟨#[]⟩,.int .i64 0] _) (by simp only [List.length_cons,List.length_nil];omega) (by have:=O4.out.size;simp;omega) ?_)
  intro g2 c2 W5 hI hG
  have BG:=Below.grown ((Below.refl w.heap.size W4).alloc O4.out.size (.cells #[.int .i64 11,.string ⟨#[]⟩,.int .i64 0] 129)) hG (by have:=O4.out.size;simp;omega) (fun k e=>by have:=I4.out.lt;simp at e;omega)
  obtain ⟨L2,hL⟩:∃ L2,L2=L1++[(11,[],0)]:=⟨_,rfl⟩
  rw [← hL] at hI
  have hn2:L2.length=L1.length+1:=by rw [hL,List.length_append];rfl
  rw [← hn2]
  have T2:Hid (∀ i∈L2,i.2.1.length≤5000):=fun i hi=>by
   rw [hL] at hi
   rcases List.mem_append.1 hi with hi | hi
   ·exact T1.out i hi
   ·rw [List.mem_singleton.1 hi];exact Nat.zero_le _
  have I5:=hide hI
  have R5:=hide (R4.out.low BG hRb)
  have O5:=hide (O4.out.then BG)
  obtain ⟨q5,hq5⟩:∃ q5,q5=q4:=⟨_,rfl⟩
  rw [← hq5] at R5
  have hp2:0<L2.length:=by omega
  have lb2:L2.length≤nb+1:=by omega
  have le2:L1.length<L2.length:=by omega
  clear hI hG BG hL hn2
  go_wp2_with fail
  refine (IH R q5 (at_+(L2.length:Int)) W5 R5.out (by omega) (by omega) (by omega)).mono ?_
  rintro e W6 ⟨M,gM,cM,rfl,hM,hMne,hMn,hMt,q6,hq6,hR,hO⟩
  have I6:=hide (I5.out.only hO hRb)
  have J6:=hide hM
  have R6:=hide hR
  have O6:=hide (O5.out.trans hO)
  have HMT:=hide hMt
  have HMN:=hide hMne
  clear hO hR hM hMt hMne
  go_wp2_with (at_builtin;refine wp_appI rfl (.tmp 126) (.tmp 134) rfl w.heap.size g2 c2 L2 (by simp [Act.eval]) I6.out ⟨gM,0,none⟩ M.length cM M (by simp [Act.eval]) rfl HMN.out J6.out.news (by first | omega | (simp only [List.length_nil];omega)) O6.out.size ?_)
  intro g3 c3 W7 hI hG
  have BG:=Below.grown (Below.refl w.heap.size W6) hG O6.out.size (fun k e=>by have:=I6.out.lt;simp at e;omega)
  obtain ⟨L3,hL⟩:∃ L3,L3=L2++M:=⟨_,rfl⟩
  rw [← hL] at hI
  have hn3:L3.length=L2.length+M.length:=by rw [hL,List.length_append]
  rw [← hn3]
  have T3:Hid (∀ i∈L3,i.2.1.length≤5000):=fun i hi=>by
   rw [hL] at hi
   rcases List.mem_append.1 hi with hi | hi
   ·exact T2.out i hi
   ·exact HMT.out i hi
  have hp3:0<L3.length:=by have:=List.length_pos_iff.2 HMN.out;omega
  have I7:=hide hI
  have R7:=hide (R6.out.low BG hRb)
  have O7:=hide (O6.out.then BG)
  obtain ⟨q7,hq7⟩:∃ q7,q7=q6:=⟨_,rfl⟩
  rw [← hq7] at R7
  have lb3:L3.length≤2*nb+1:=by omega
  have le3:L2.length≤L3.length:=by omega
  clear hI hG BG hL hn3 HMT HMN J6
  go_wp2_with fail
  refine (l1OpN_any 10 0 _).mono ?_
  rintro e W8 ⟨rfl,hB⟩
  obtain ⟨q8,hq8⟩:∃ q8,q8=q7:=⟨_,rfl⟩
  rw [← hq8] at R7
  have I8:=hide (I7.out.below hB lr)
  have R8:=hide (R7.out.below hB lr)
  have O8:=hide (O7.out.trans (Only.of_below hB))
  clear hB
  have X8:=hide (I8.out.below ((Below.refl W8.heap.size W8).alloc lr (.cells #[.int .i64 10,.string ⟨#[]⟩,.int .i64 0] 129)) lr)
  go_wp2_with (at_builtin;refine wp_appI rfl (.tmp 138) (.tmp 140) rfl w.heap.size g3 c3 L3 (by simp [Act.eval]) X8.out ⟨W8.heap.size,0,none⟩ 1 1 [(10,[],0)] (by simp [Act.eval]) rfl (by simp) (new_cells W8 #[.int .i64 10,.string ⟨#[]⟩,.int .i64 0] _) (by simp only [List.length_cons,List.length_nil];omega) (by have:=O8.out.size;simp;omega) ?_)
  intro g4 c4 W9 hI hG
  have BG:=Below.grown ((Below.refl w.heap.size W8).alloc O8.out.size (.cells #[.int .i64 10,.string ⟨#[]⟩,.int .i64 0] 129)) hG (by have:=O8.out.size;simp;omega) (fun k e=>by have:=I8.out.lt;simp at e;omega)
  obtain ⟨L4,hL⟩:∃ L4,L4=L3++[(10,[],0)]:=⟨_,rfl⟩
  rw [← hL] at hI
  have hn4:L4.length=L3.length+1:=by rw [hL,List.length_append];rfl
  rw [← hn4]
  have T4:Hid (∀ i∈L4,i.2.1.length≤5000):=fun i hi=>by
   rw [hL] at hi
   rcases List.mem_append.1 hi with hi | hi
   ·exact T3.out i hi
   ·rw [List.mem_singleton.1 hi];exact Nat.zero_le _
  have I9:=hide hI
  have R9:=hide (R8.out.low BG hRb)
  have O9:=hide (O8.out.then BG)
  obtain ⟨q9,hq9⟩:∃ q9,q9=q8:=⟨_,rfl⟩
  rw [← hq9] at R9
  have hp4:0<L4.length:=by omega
  have lb4:L4.length≤2*nb+2:=by omega
  have le4:L3.length<L4.length:=by omega
  clear hI hG BG hL hn4
  obtain ⟨⟨n0,cn⟩,fz⟩:=I9.out.cellN (i:=L1.length) (by omega)
  have il:(L1.length:Int)<(L4.length:Int):=by omega
  have gl:=I9.out.lt.2
  go_wp2_with fail
  refine (l1Small_any _ _).mono ?_
  rintro e Wx ⟨rfl,hw⟩
  rw [hw]
  clear hw
  generalize (if 200<at_+(L4.length:Int) then 200 else at_+(L4.length:Int))=sv
  obtain ⟨L5,hlk,htk,hI⟩:=I9.out.setN (i:=L1.length) (by omega) sv
  have BG:=(Below.refl w.heap.size W9).setCell (p:=⟨g4,L1.length*3+2,none⟩) I9.out.lt.1 (.int .i64 sv)
  go_upto_region 33 with fail
  have T5:=hide (htk T4.out)
  have I10:=hide hI
  have R10:=hide (R9.out.low BG hRb)
  have O10:=hide (O9.out.then BG)
  obtain ⟨q10,hq10⟩:∃ q10,q10=q9:=⟨_,rfl⟩
  rw [← hq10] at R10
  have hp5:0<L5.length:=by omega
  have lb5:L5.length≤2*nb+2:=by omega
  have le5:L4.length≤L5.length:=by omega
  obtain ⟨g5,hg5⟩:∃ g5,g5=g4:=⟨_,rfl⟩
  obtain ⟨c5,hc5⟩:∃ c5,c5=c4:=⟨_,rfl⟩
  generalize W9.setCell ⟨g4,L1.length*3+2,none⟩ (.int .i64 sv)=W10 at I10 R10 O10 ⊢
  rw [← hlk,← hg5,← hc5]
  rw [← hg5,← hc5] at I10
  clear hlk htk hI BG cn fz gl hg5 hc5 il
  go_wp2_with fail
  refine (IH R q10 (at_+(L5.length:Int)) W10 R10.out (by omega) (by omega) (by omega)).mono ?_
  rintro e W11 ⟨M,gM,cM,rfl,hM,hMne,hMn,hMt,q11,hq11,hR,hO⟩
  have I11:=hide (I10.out.only hO hRb)
  have J11:=hide hM
  have R11:=hide hR
  have O11:=hide (O10.out.trans hO)
  have HMT:=hide hMt
  have HMN:=hide hMne
  clear hO hR hM hMt hMne
  go_wp2_with (at_builtin;refine wp_appI rfl (.tmp 151) (.tmp 159) rfl w.heap.size g5 c5 L5 (by simp [Act.eval]) I11.out ⟨gM,0,none⟩ M.length cM M (by simp [Act.eval]) rfl HMN.out J11.out.news (by first | omega | (simp only [List.length_nil];omega)) O11.out.size ?_)
  intro g6 c6 W12 hI hG
  have BG:=Below.grown (Below.refl w.heap.size W11) hG O11.out.size (fun k e=>by have:=I11.out.lt;simp at e;omega)
  obtain ⟨L6,hL⟩:∃ L6,L6=L5++M:=⟨_,rfl⟩
  rw [← hL] at hI
  have hn6:L6.length=L5.length+M.length:=by rw [hL,List.length_append]
  rw [← hn6]
  have T6:Hid (∀ i∈L6,i.2.1.length≤5000):=fun i hi=>by
   rw [hL] at hi
   rcases List.mem_append.1 hi with hi | hi
   ·exact T5.out i hi
   ·exact HMT.out i hi
  have hp6:0<L6.length:=by have:=List.length_pos_iff.2 HMN.out;omega
  have I12:=hide hI
  have R12:=hide (R11.out.low BG hRb)
  have O12:=hide (O11.out.then BG)
  obtain ⟨q12,hq12⟩:∃ q12,q12=q11:=⟨_,rfl⟩
  rw [← hq12] at R12
  have lb6:L6.length≤3*nb+2:=by omega
  have le6:L5.length≤L6.length:=by omega
  clear hI hG BG hL hn6 HMT HMN J11
  obtain ⟨⟨n0,cn⟩,fz⟩:=I12.out.cellN (i:=L3.length) (by omega)
  have il:(L3.length:Int)<(L6.length:Int):=by omega
  have gl:=I12.out.lt.2
  go_wp2_with fail
  refine (l1Small_any _ _).mono ?_
  rintro e Wx ⟨rfl,hw⟩
  rw [hw]
  clear hw
  generalize (if 200<at_+(L6.length:Int) then 200 else at_+(L6.length:Int))=sv
  obtain ⟨L7,hlk,htk,hI⟩:=I12.out.setN (i:=L3.length) (by omega) sv
  have BG:=(Below.refl w.heap.size W12).setCell (p:=⟨g6,L3.length*3+2,none⟩) I12.out.lt.1 (.int .i64 sv)
  go_upto_region 35 with fail
  have T7:=hide (htk T6.out)
  have I13:=hide hI
  have R13:=hide (R12.out.low BG hRb)
  have O13:=hide (O12.out.then BG)
  obtain ⟨q13,hq13⟩:∃ q13,q13=q12:=⟨_,rfl⟩
  rw [← hq13] at R13
  have hp7:0<L7.length:=by omega
  have lb7:L7.length≤3*nb+2:=by omega
  have le7:L6.length≤L7.length:=by omega
  obtain ⟨g7,hg7⟩:∃ g7,g7=g6:=⟨_,rfl⟩
  obtain ⟨c7,hc7⟩:∃ c7,c7=c6:=⟨_,rfl⟩
  generalize W12.setCell ⟨g6,L3.length*3+2,none⟩ (.int .i64 sv)=W13 at I13 R13 O13 ⊢
  rw [← hlk,← hg7,← hc7]
  rw [← hg7,← hc7] at I13
  clear hlk htk hI BG cn fz gl hg7 hc7 il
  go_wp2
  go_ret
  exact ⟨L7,g7,c7,rfl,I13.out,List.length_pos_iff.1 hp7,by omega,T7.out,q13,by omega,R13.out,O13.out⟩
 ·go_wp2_with fail
  refine (l1Text_any R _ _ R1.out (by omega)).mono ?_
  rintro e W2 ⟨t,rfl,ht,q2,hq2,hR,hO⟩
  have I2:=hide (I1.out.only hO hRb)
  have R2:=hide hR
  have O2:=hide (O1.out.trans hO)
  clear hO hR
  go_wp2_with fail
  refine (l1Lit_any t _).mono ?_
  rintro e W3 ⟨rfl,hB⟩
  obtain ⟨q3,hq3⟩:∃ q3,q3=q2:=⟨_,rfl⟩
  rw [← hq3] at R2
  have I3:=hide (I2.out.below hB lr)
  have R3:=hide (R2.out.below hB lr)
  have O3:=hide (O2.out.trans (Only.of_below hB))
  clear hB
  go_wp2_with fail
  refine (l1Op_any 7 _).mono ?_
  rintro e W4 ⟨rfl,hB⟩
  obtain ⟨q4,hq4⟩:∃ q4,q4=q3:=⟨_,rfl⟩
  rw [← hq4] at R3
  have I4:=hide (I3.out.below hB lr)
  have R4:=hide (R3.out.below hB lr)
  have O4:=hide (O3.out.trans (Only.of_below hB))
  clear hB
  go_wp2_with fail
  refine (l1Op_any 8 _).mono ?_
  rintro e W5 ⟨rfl,hB⟩
  obtain ⟨q5,hq5⟩:∃ q5,q5=q4:=⟨_,rfl⟩
  rw [← hq5] at R4
  have I5:=hide (I4.out.below hB lr)
  have R5:=hide (R4.out.below hB lr)
  have O5:=hide (O4.out.trans (Only.of_below hB))
  clear hB
  go_wp2_with fail
  refine (l1Op_any 9 _).mono ?_
  rintro e W6 ⟨rfl,hB⟩
  obtain ⟨q6,hq6⟩:∃ q6,q6=q5:=⟨_,rfl⟩
  rw [← hq6] at R5
  have I6:=hide (I5.out.below hB lr)
  have R6:=hide (R5.out.below hB lr)
  have O6:=hide (O5.out.trans (Only.of_below hB))
  clear hB
  have X6:=hide (I6.out.below ((Below.refl W6.heap.size W6).alloc lr (.cells #[.int .i64 1,.string t,.int .i64 0,.int .i64 7,.string ⟨#[]⟩,.int .i64 0,.int .i64 8,.string ⟨#[]⟩,.int .i64 0,.int .i64 9,.string ⟨#[]⟩,.int .i64 0] 129)) lr)
  go_wp2_with (at_builtin;refine wp_appI rfl (.tmp 171) (.tmp 178) rfl w.heap.size w.heap.size 0 [] (by simp [Act.eval]) X6.out ⟨W6.heap.size,0,none⟩ 4 4 [(1,t.data.toList,0),(7,[],0),(8,[],0),(9,[],0)] (by simp [Act.eval]) rfl (by simp) (new_cells W6 #[.int .i64 1,.string t,.int .i64 0,.int .i64 7,.string ⟨#[]⟩,.int .i64 0,.int .i64 8,.string ⟨#[]⟩,.int .i64 0,.int .i64 9,.string ⟨#[]⟩,.int .i64 0] _) (by simp only [List.length_cons,List.length_nil];omega) (by have:=O6.out.size;simp;omega) ?_)
  intro g9 c9 w9 hI hG
  have BG:=Below.grown ((Below.refl w.heap.size W6).alloc O6.out.size (.cells #[.int .i64 1,.string t,.int .i64 0,.int .i64 7,.string ⟨#[]⟩,.int .i64 0,.int .i64 8,.string ⟨#[]⟩,.int .i64 0,.int .i64 9,.string ⟨#[]⟩,.int .i64 0] 129)) hG (by have:=O6.out.size;simp;omega) (fun k e=>by have:=I6.out.lt;simp at e;omega)
  have I9:=hide hI
  have R9:=hide (R6.out.low BG hRb)
  have O9:=hide (O6.out.then BG)
  clear hI hG BG
  go_wp2
  go_ret
  refine ⟨_,g9,c9,rfl,I9.out,by simp,by simp only [List.length_cons,List.length_nil];omega,?_,q6,by omega,R9.out,O9.out⟩
  intro i hi
  simp only [List.mem_cons,List.not_mem_nil,or_false] at hi
  rcases hi with rfl | rfl | rfl | rfl
  ·show t.data.toList.length≤5000;rw [Array.length_toList];show t.size≤5000;omega
  ·exact Nat.zero_le _
  ·exact Nat.zero_le _
  ·exact Nat.zero_le _
def VD (nc nb:Nat)(d:Int):Prop:=∀ (R p:Nat) (at_:Int) (w:World),Rd w R p→p+nc≤30000→0≤at_→at_+(nb:Int)≤10000→Calls Tryz.prog 132 #[.pointer (some ⟨R,0,none⟩),.int .i64 at_,.int .i64 d] w fun e w'=>DI w R (p+nc) nb e w'
theorem vd0:VD 14 4 ((0:Nat):Int):=fun R p at_ w hR hp _ _=>l1Value_0 R p at_ w hR hp
theorem vd1:VD 56 14 ((1:Nat):Int):=fun R p at_ w hR hp h0 h1=>l1Value_s 0 4 14 (by omega) (by omega) (by omega) (by omega) (by omega) vd0 R p at_ w hR (by omega) h0 (by omega)
theorem vd2:VD 182 44 ((2:Nat):Int):=fun R p at_ w hR hp h0 h1=>l1Value_s 1 14 56 (by omega) (by omega) (by omega) (by omega) (by omega) vd1 R p at_ w hR (by omega) h0 (by omega)
theorem vd3:VD 560 134 ((3:Nat):Int):=fun R p at_ w hR hp h0 h1=>l1Value_s 2 44 182 (by omega) (by omega) (by omega) (by omega) (by omega) vd2 R p at_ w hR (by omega) h0 (by omega)
theorem DI.mono {w w':World}{R q q' n n':Nat}{e:Ending}(h:DI w R q n e w')(hq:q≤q')(hn:n≤n'):DI w R q' n' e w':=by
 obtain ⟨L,g,c,h1,h2,h3,h4,h5,p,h6,h7⟩:=h
 exact ⟨L,g,c,h1,h2,h3,Nat.le_trans h4 hn,h5,p,Nat.le_trans h6 hq,h7⟩
theorem l1Value_any (R p:Nat)(z:Int)(hz:z=0∨z=1)(w:World)(hR:Rd w R p)(hp:p≤29000) :
  Calls Tryz.prog 132 #[.pointer (some ⟨R,0,none⟩),.int .i64 0,.int .i64 (2+z)] w fun e w'=>DI w R (p+560) 134 e w':=by
 rcases hz with rfl | rfl
 ·exact (vd2 R p 0 w hR (by omega) (by omega) (by omega)).mono fun e w' h=>h.mono (by omega) (by omega)
 ·exact vd3 R p 0 w hR (by omega) (by omega) (by omega)
def ST (w:World)(R rb:Nat)(W:World)(q:Nat):Prop:=Rd W R q∧Only R w W∧PB W rb (.slice none 0 0)∧R<w.heap.size∧w.heap.size≤rb
def SC (w:World)(R rb:Nat)(W:World)(q g c:Nat)(L:List I3)(n:Nat):Prop:=ST w R rb W q∧IR W (rb+1) g c L∧L.length≤n∧∀ i∈L,i.2.1.length≤5000
theorem ST.rd {w W:World}{R rb q:Nat}(h:ST w R rb W q):Rd W R q:=h.1
theorem ST.lt {w W:World}{R rb q:Nat}(h:ST w R rb W q):rb<W.heap.size:=h.2.2.1.lt
theorem ST.low {w W W':World}{R rb q:Nat}(h:ST w R rb W q)(hb:Below (rb+1) W W'):ST w R rb W' q:=by
 obtain ⟨h1,h2,h3,h4,h5⟩:=h
 exact ⟨h1.low hb (by omega),h2.then (hb.mono (by omega)),h3.below hb (by omega),h4,h5⟩
theorem ST.below {w W W':World}{R rb q:Nat}(h:ST w R rb W q)(hb:Below W.heap.size W W'):ST w R rb W' q:=h.low (hb.mono h.lt)
theorem PB.only {w w':World}{b R:Nat}{v:Value}(h:PB w b v)(ho:Only R w w')(hR:b≠R):PB w' b v:=(ho.block b h.lt hR).trans h
theorem ST.only {w W W':World}{R rb q q':Nat}(h:ST w R rb W q)(ho:Only R W W')(hR:Rd W' R q'):ST w R rb W' q':=by
 obtain ⟨h1,h2,h3,h4,h5⟩:=h
 exact ⟨hR,h2.trans ho,h3.only ho (by omega),h4,h5⟩
theorem ST.new {w:World}{R q:Nat}(h:Rd w R q):ST w R w.heap.size (w.alloc (.cells #[.slice none 0 0] 31)) q:=by
 have A0:=(Below.refl w.heap.size w).alloc lr (.cells #[.slice none 0 0] 31)
 exact ⟨h.below A0 lr,Only.of_below A0,heap_alloc_new w _,h.lt,Nat.le_refl _⟩
theorem SC.st {w W:World}{R rb q g c n:Nat}{L:List I3}(h:SC w R rb W q g c L n):ST w R rb W q:=h.1
theorem SC.ir {w W:World}{R rb q g c n:Nat}{L:List I3}(h:SC w R rb W q g c L n):IR W (rb+1) g c L:=h.2.1
theorem SC.len {w W:World}{R rb q g c n:Nat}{L:List I3}(h:SC w R rb W q g c L n):L.length≤n:=h.2.2.1
theorem SC.below {w W W':World}{R rb q g c n:Nat}{L:List I3}(h:SC w R rb W q g c L n)(hb:Below W.heap.size W W'):SC w R rb W' q g c L n :=
 ⟨h.1.below hb,h.2.1.below hb lr,h.2.2⟩
theorem SC.only {w W W':World}{R rb q q' g c n:Nat}{L:List I3}(h:SC w R rb W q g c L n)(ho:Only R W W')(hR:Rd W' R q'):SC w R rb W' q' g c L n :=
 ⟨h.1.only ho hR,h.2.1.only ho (by have:=h.1.2.2.2;omega),h.2.2⟩
theorem SC.di {w W W':World}{R rb q q' g c n:Nat}{L:List I3}(h:ST w R rb W q)(hI:IR W' W.heap.size g c L)(hn:L.length≤n)(hT:∀ i∈L,i.2.1.length≤5000)(ho:Only R W W')(hR:Rd W' R q'):SC w R rb W' q' g c L n :=
 ⟨h.only ho hR,own_mono hI h.lt,hn,hT⟩
theorem SC.app {w W W':World}{R rb q g c g' c' n n':Nat}{L M:List I3}(cs:Array Value)(h:SC w R rb W q g c L n)(hI:IR W' (rb+1) g' c' (L++M))(hG:(W.alloc (.cells cs 129)).grownBy W' (some g))(hn:n+M.length≤n')(hT:∀ i∈M,i.2.1.length≤5000):SC w R rb W' q g' c' (L++M) n':=by
 have hl:=h.1.lt
 have BG:=Below.grown ((Below.refl (rb+1) W).alloc hl (.cells cs 129)) hG (by simp;omega) (fun k e=>by have:=h.2.1.lt;simp at e;omega)
 refine ⟨h.1.low BG,hI,by rw [List.length_append];have:=h.len;omega,fun i hi=>?_⟩
 rcases List.mem_append.1 hi with hi | hi
 ·exact h.2.2.2 i hi
 ·exact hT i hi
theorem IR.new (W:World)(base:Nat)(hb:base≤W.heap.size)(L:List I3)(cs:Array Value)(hc:cs.toList=i3L L)(n:Nat)(hn:n=L.length)(hm:n≤100000):IR (W.alloc (.cells cs 129)) base W.heap.size n L:=by
 subst hn
 have hz:cs.size=L.length*3:=by rw [← i3L_len,← hc,Array.length_toList]
 refine ⟨i3L_len L,.inr ⟨W.heap.size,L.length,cs,rfl,hb,heap_alloc_new W _,Nat.le_refl _,by unfold maxLen;omega,hz,?_⟩⟩
 rw [hc,List.take_of_length_le (by rw [i3L_len];omega)]
theorem SC.lit {w W:World}{R rb q:Nat}(h:ST w R rb W q)(L:List I3)(cs:Array Value)(hc:cs.toList=i3L L)(n:Nat)(hn:n=L.length)(hm:n≤100000)(hT:∀ i∈L,i.2.1.length≤5000):SC w R rb (W.alloc (.cells cs 129)) q W.heap.size n L n :=
 ⟨h.below ((Below.refl _ _).alloc lr _),IR.new W (rb+1) h.lt L cs hc n hn hm,by omega,hT⟩
theorem SC.fin {w W:World}{R rb q g c n:Nat}{L:List I3}(h:SC w R rb W q g c L n)(v:Value):PB (W.setCell ⟨rb,0,none⟩ v) rb v∧IR (W.setCell ⟨rb,0,none⟩ v) w.heap.size g c L∧L.length≤n∧(∀ i∈L,i.2.1.length≤5000)∧Rd (W.setCell ⟨rb,0,none⟩ v) R q∧Only R w (W.setCell ⟨rb,0,none⟩ v):=by
 obtain ⟨⟨h1,h2,h3,h4,h5⟩,h6,h7,h8⟩:=h
 have B:=(Below.refl w.heap.size W).setCell (p:=⟨rb,0,none⟩) h5 v
 exact ⟨h3.set v,own_mono (own_setP h6 (by omega) v) (by omega),h7,h8,h1.low B h4,h2.then B⟩
def DP (w:World)(R q lo n:Nat)(e:Ending)(w':World):Prop:=∃ (L:List I3) (g c:Nat),e=.returned (.agg #[.slice (some ⟨g,0,none⟩) L.length c])∧IR w' w.heap.size g c L∧lo≤L.length∧L.length≤n∧(∀ i∈L,i.2.1.length≤5000)∧∃ q':Nat,q'≤q∧Rd w' R q'∧Only R w w'
theorem res_prog1 {fn:Func}{p:Tmp}(h:fn.results=#[.cell p 31])(tmps:Array Value)(w:World)(g:Nat)(v:Value)(hp:tmps.getD p undef=.pointer (some ⟨g,0,none⟩))(hC:PB w g v) :
  (results fn tmps).run Tryz.prog w=.ok (.agg #[v]) w :=
 results_cell_row h tmps w g 31 #[v] (0,0) _ hp hC Tryz.underlying31 rfl sizeProgram
def fI (L:List I3)(i:Nat):Ins:=⟨(L.getD i (0,[],0)).1,⟨(L.getD i (0,[],0)).2.1.toArray⟩,(L.getD i (0,[],0)).2.2⟩
theorem i3L_at:∀ (L:List I3) (i:Nat),i<L.length→(i3L L)[i*3]?=some (.int .i64 (fI L i).op)∧(i3L L)[i*3+1]?=some (.string (fI L i).s)∧(i3L L)[i*3+2]?=some (.int .i64 (fI L i).n)
 | [],i,h=>by simp at h
 | x :: L,0,_=>⟨rfl,rfl,rfl⟩
 | x :: L,i+1,h=>by
  have ih:=i3L_at L i (by simpa using h)
  have hl:(i3V x).length=3:=rfl
  have e:∀ k,(i3L (x :: L))[(i+1)*3+k]?=(i3L L)[i*3+k]?:=fun k=>by
   show (i3V x++i3L L)[(i+1)*3+k]?=_
   rw [List.getElem?_append_right (by rw [hl];omega),hl,show (i+1)*3+k - 3=i*3+k by omega]
  have e0:=e 0
  rw [Nat.add_zero,Nat.add_zero] at e0
  rw [e0,e 1,e 2]
  exact ih
theorem IR.at {w:World}{base g c:Nat}{L:List I3}(h:IR w base g c L):∀ i,i<L.length→AtIns w g 0 i (fI L i):=by
 intro i hi
 obtain ⟨h0,h1,h2⟩:=i3L_at L i hi
 have c0:=h.news _ _ h0
 have c1:=h.news _ _ h1
 have c2:=h.news _ _ h2
 rw [addr_addF] at c0 c1 c2
 exact ⟨c0,c1,c2⟩
theorem fI_size {L:List I3}(hT:∀ i∈L,i.2.1.length≤5000):∀ i,i<L.length→(fI L i).s.size≤maxLen:=by
 intro i hi
 have h:=hT L[i] (List.getElem_mem hi)
 have e:L.getD i (0,[],0)=L[i]:=by simp [hi]
 show (L.getD i (0,[],0)).2.1.toArray.size≤maxLen
 rw [e,List.size_toArray]
 unfold maxLen
 omega
theorem i3L_set3:∀ (L:List I3) (i:Nat) (y:I3) (j:Nat) (v:Value),j<3→i<L.length→i3V y=(i3V (L.getD i (0,[],0))).set j v→i3L (L.set i y)=(i3L L).set (i*3+j) v
 | [],i,y,j,v,_,h,_=>by simp at h
 | x :: L,0,y,j,v,hj,_,e=>by
  show i3V y++i3L L=(i3V x++i3L L).set (0*3+j) v
  rw [List.set_append_left _ _ (by show 0*3+j<3;omega),Nat.zero_mul,Nat.zero_add]
  rw [show i3V y=(i3V x).set j v from e]
 | x :: L,i+1,y,j,v,hj,h,e=>by
  have ih:=i3L_set3 L i y j v hj (by simpa using h) e
  have hl:(i3V x).length=3:=rfl
  show i3V x++i3L (L.set i y)=(i3V x++i3L L).set ((i+1)*3+j) v
  rw [ih,List.set_append_right _ _ (by rw [hl];omega),hl,show (i+1)*3+j - 3=i*3+j by omega]
theorem IR.set3 {w:World}{base g c:Nat}{L:List I3}(h:IR w base g c L){i j:Nat}(hi:i<L.length)(hj:j<3)(y:I3)(v:Value)(e:i3V y=(i3V (L.getD i (0,[],0))).set j v):IR (w.setCell ⟨g,i*3+j,none⟩ v) base g c (L.set i y):=by
 unfold IR
 rw [List.length_set,i3L_set3 L i y j v hj hi e]
 refine ⟨by rw [List.length_set];exact h.1,?_⟩
 rcases h.2 with ⟨hv,h0⟩ | ⟨g',cap,cur,hv,hb,hg,h1,h2,h3,h4⟩
 ·simp at hv
 ·simp only [Value.slice.injEq,Option.some.injEq,Addr.mk.injEq] at hv
  obtain ⟨⟨rfl,-⟩,-,rfl⟩:=hv
  refine .inr ⟨g,c,cur.setIfInBounds (i*3+j) v,rfl,hb,?_,h1,h2,by simpa using h3,?_⟩
  ·simp [World.setCell,Array.getElem?_modify,hg]
  ·rw [Array.toList_setIfInBounds,List.take_set,h4]
theorem IR.take {w:World}{base g c:Nat}{L:List I3}(h:IR w base g c L)(k:Nat)(hk:k≤L.length):IR w base g c (L.take k):=by
 have e:i3L (L.take k)=(i3L L).take (k*3):=by
  have h1:i3L L=i3L (L.take k)++i3L (L.drop k):=by rw [← i3L_app,List.take_append_drop]
  have h2:(i3L (L.take k)).length=k*3:=by rw [i3L_len,List.length_take,Nat.min_eq_left hk]
  rw [h1,← h2,List.take_left']
  rfl
 have hl:(L.take k).length=k:=by rw [List.length_take,Nat.min_eq_left hk]
 unfold IR
 rw [e,hl]
 refine ⟨by rw [List.length_take,h.1,Nat.min_eq_left (by omega)],?_⟩
 rcases h.2 with ⟨hv,h0⟩ | ⟨g',cap,cur,hv,hb,hg,h1,h2,h3,h4⟩
 ·simp at hv
 ·simp only [Value.slice.injEq,Option.some.injEq,Addr.mk.injEq] at hv
  obtain ⟨⟨rfl,-⟩,-,rfl⟩:=hv
  refine .inr ⟨g,c,cur,rfl,hb,hg,by omega,h2,h3,?_⟩
  rw [← h4,List.take_take,Nat.min_eq_left (by omega)]
theorem IR.fz {w:World}{base g c:Nat}{L:List I3}(h:IR w base g c L)(j:Nat):w.frozen? ⟨g,j,none⟩=false:=by
 rcases h.2 with ⟨hv,_⟩ | ⟨g',cap,cur,hv,_,hg,_⟩
 ·simp at hv
 ·simp only [Value.slice.injEq,Option.some.injEq,Addr.mk.injEq] at hv
  obtain ⟨⟨rfl,-⟩,-,rfl⟩:=hv
  exact Lib.frozen_of_heap hg _
theorem SC.set3 {w W:World}{R rb q g c n:Nat}{L:List I3}(h:SC w R rb W q g c L n){i j:Nat}(hi:i<L.length)(hj:j<3)(y:I3)(v:Value)(e:i3V y=(i3V (L.getD i (0,[],0))).set j v)(hy:y.2.1.length≤5000):SC w R rb (W.setCell ⟨g,i*3+j,none⟩ v) q g c (L.set i y) n:=by
 have B:=(Below.refl (rb+1) W).setCell (p:=⟨g,i*3+j,none⟩) h.ir.lt.1 v
 refine ⟨h.1.low B,h.ir.set3 hi hj y v e,by rw [List.length_set];exact h.len,fun x hx=>?_⟩
 rcases List.mem_or_eq_of_mem_set hx with h1 | h1
 ·exact h.2.2.2 x h1
 ·rw [h1];exact hy
theorem SC.take {w W:World}{R rb q g c n:Nat}{L:List I3}(h:SC w R rb W q g c L n)(k:Nat)(hk:k≤L.length):SC w R rb W q g c (L.take k) n :=
 ⟨h.1,h.ir.take k hk,by rw [List.length_take];have:=h.len;omega,fun i hi=>h.2.2.2 i (List.mem_of_mem_take hi)⟩
theorem SC.app0 {w W W':World}{R rb q g c g' c' n n':Nat}{L M:List I3}(h:SC w R rb W q g c L n)(hI:IR W' (rb+1) g' c' (L++M))(hG:W.grownBy W' (some g))(hn:L.length+M.length≤n')(hT:∀ i∈M,i.2.1.length≤5000):SC w R rb W' q g' c' (L++M) n':=by
 have hl:=h.1.lt
 have BG:=Below.grown (Below.refl (rb+1) W) hG (by omega) (fun k e=>by have:=h.2.1.lt;simp at e;omega)
 refine ⟨h.1.low BG,hI,by rw [List.length_append];omega,fun i hi=>?_⟩
 rcases List.mem_append.1 hi with hi | hi
 ·exact h.2.2.2 i hi
 ·exact hT i hi
theorem SC.mono {w W:World}{R rb q g c n n':Nat}{L:List I3}(h:SC w R rb W q g c L n)(hn:L.length≤n'):SC w R rb W q g c L n':=⟨h.1,h.2.1,hn,h.2.2.2⟩
theorem SC.text {w W:World}{R rb q g c n:Nat}{L:List I3}(h:SC w R rb W q g c L n)(i:Nat)(hi:i<L.length):(L.getD i (0,[],0)).2.1.length≤5000:=by
 have e:L.getD i (0,[],0)=L[i]:=by simp [hi]
 rw [e]
 exact h.2.2.2 _ (List.getElem_mem hi)
theorem spoil_new {w:World}{R q:Nat}(h:Rd w R q)(v:Value):SC w R (w.heap.size+1) (((w.alloc (.cells #[v] 31)).alloc (.cells #[.slice none 0 0] 31)).alloc (.cells #[] 129)) q (w.heap.size+2) 0 [] 0:=by
 have A0:=(Below.refl w.heap.size w).alloc lr (.cells #[v] 31)
 have A1:=A0.alloc A0.size (.cells #[.slice none 0 0] 31)
 have A2:=A1.alloc A1.size (.cells #[] 129)
 have hz:((w.alloc (.cells #[v] 31)).alloc (.cells #[.slice none 0 0] 31)).heap.size=w.heap.size+2:=by simp
 have I:=IR.lit ((w.alloc (.cells #[v] 31)).alloc (.cells #[.slice none 0 0] 31))
 rw [hz] at I
 refine ⟨⟨h.below A2 lr,Only.of_below A2,?_,h.lt,by omega⟩,I,Nat.le_refl _,fun i hi=>by cases hi⟩
 show _=_
 rw [heap_alloc_old _ _ (by simp)]
 exact heap_alloc2_new w _ _
theorem l1Spoil_cells (R p g c:Nat)(L:List I3)(w:World)(hR:Rd w R p)(hp:p≤20000)(hgl:g<w.heap.size)(hN:∀ j u,(i3L L)[j]?=some u→w.cell? ((⟨g,0,none⟩:Addr).add j)=some u)(hn:L.length≤200)(hne:L≠[])(hT:∀ i∈L,i.2.1.length≤5000) :
  Calls Tryz.prog 94 #[.pointer (some ⟨R,0,none⟩),.agg #[.slice (some ⟨g,0,none⟩) L.length c]] w fun e w'=>DP w R (p+1000) 0 201 e w':=by
 have A2:=(((Below.refl w.heap.size w).alloc lr (.cells #[.slice (some ⟨g,0,none⟩) L.length c] 31)).alloc (by simp) (.cells #[.slice none 0 0] 31)).alloc (by simp;omega) (.cells #[] 129)
 have C0:=hide (spoil_new hR (.slice (some ⟨g,0,none⟩) L.length c))
 have N0:=hide (fun (j:Nat) (u:Value) (hu:(i3L L)[j]?=some u)=>(A2.cell (p:=(⟨g,0,none⟩:Addr).add j) (by rw [addr_addF];exact hgl)).trans (hN j u hu))
 have HT:=hide hT
 have hl:0<L.length:=List.length_pos_iff.2 hne
 clear A2 hR hN hT hgl
 go_enter Tryz.func94,Tryz.ntmps94
 go_wp2_with (at_builtin;refine wp_appI rfl (.tmp 7) (.tmp 9) rfl (w.heap.size+2) (w.heap.size+2) 0 [] (by simp [Act.eval]) C0.out.ir ⟨g,0,none⟩ L.length c L (by simp [Act.eval]) rfl hne N0.out (by simp only [List.length_nil];omega) (by simp) ?_)
 intro g1 c1 W1 hI hG
 have C1:=hide (C0.out.app0 (n':=200) hI hG (by simp only [List.length_nil];omega) HT.out)
 rw [List.nil_append] at C1
 clear hI hG C0 N0 HT hne
 go_wp2_with fail
 refine (pick_any R _ (L.length:Int) _ C1.out.st.rd (by omega) (by omega) (by omega)).mono ?_
 rintro e W2 ⟨z,rfl,z0,z1,hR,hO⟩
 obtain ⟨k,rfl⟩:∃ k:Nat,z=(k:Int):=⟨z.toNat,by omega⟩
 have C2:=hide (C1.out.only hO hR)
 have hk:k<L.length:=by omega
 have nz:¬ ((L.length:Int)=0):=by omega
 clear hO hR C1
 go_wp2_with fail
 refine (pick_any R _ 7 _ C2.out.st.rd (by omega) (by omega) (by omega)).mono ?_
 rintro e W3 ⟨s,rfl,s0,s1,hR,hO⟩
 have C3:=hide (C2.out.only hO hR)
 clear hO hR C2
 rcases (show s=0∨s=1∨s=2∨s=3∨s=4∨s=5∨s=6 by omega) with rfl | rfl | rfl | rfl | rfl | rfl | rfl
 ·go_wp2_with fail
  refine (pick_any R _ 18 _ C3.out.st.rd (by omega) (by omega) (by omega)).mono ?_
  rintro e W4 ⟨y,rfl,y0,y1,hR,hO⟩
  have C4:=hide (C3.out.only hO hR)
  clear hO hR C3
  obtain ⟨x0,x1,x2⟩:=C4.out.ir.at k hk
  rw [Nat.zero_add] at x0 x1 x2
  have fz0:=C4.out.ir.fz (k*3)
  have fz1:=C4.out.ir.fz (k*3+1)
  have fz2:=C4.out.ir.fz (k*3+2)
  have gl:=C4.out.ir.lt.2
  have C5:Hid (SC w R (w.heap.size+1) (W4.setCell ⟨g1,k*3,none⟩ (.int .i64 (y - 1))) _ g1 c1 (L.set k (y - 1,(L.getD k (0,[],0)).2.1,(L.getD k (0,[],0)).2.2)) 200):=C4.out.set3 (j:=0) hk (by omega) (y - 1,(L.getD k (0,[],0)).2.1,(L.getD k (0,[],0)).2.2) (.int .i64 (y - 1)) rfl (C4.out.text k hk)
  go_upto_region 20 with fail
  generalize W4.setCell ⟨g1,k*3,none⟩ (.int .i64 (y - 1))=W5 at C5 ⊢
  obtain ⟨L',hL⟩:∃ L',L'=L.set k (y - 1,(L.getD k (0,[],0)).2.1,(L.getD k (0,[],0)).2.2):=⟨_,rfl⟩
  have lq:L'.length=L.length:=by rw [hL,List.length_set]
  rw [← hL] at C5
  clear hL x0 x1 x2 fz0 fz1 fz2 gl C4
  have pb:=C5.out.st.2.2.1
  have zl:=pb.lt
  have d0:=pb.c0
  have d1:=pb.fz 0
  have fin:=hide (C5.out.fin (.slice (some ⟨g1,0,none⟩) L.length c1))
  clear pb
  go_wp2
  obtain ⟨f1,f2,f3,f4,f5,f6⟩:=fin.out
  try simp only [Exit.inBlock,Exit.then]
  refine bodyPost_ret (res_prog1 rfl _ _ (w.heap.size+1) _ rfl f1) rfl ?_
  exact ⟨L',g1,c1,by rw [lq],f2,by omega,by omega,f4,_,by omega,f5,f6⟩
 ·obtain ⟨x0,x1,x2⟩:=C3.out.ir.at k hk
  rw [Nat.zero_add] at x0 x1 x2
  have fz0:=C3.out.ir.fz (k*3)
  have fz1:=C3.out.ir.fz (k*3+1)
  have fz2:=C3.out.ir.fz (k*3+2)
  have gl:=C3.out.ir.lt.2
  have C4:Hid (SC w R (w.heap.size+1) (W3.setCell ⟨g1,k*3+2,none⟩ (.int .i64 (wrap64 ((fI L k).n+1)))) _ g1 c1 (L.set k ((L.getD k (0,[],0)).1,(L.getD k (0,[],0)).2.1,(wrap64 ((fI L k).n+1)))) 200):=C3.out.set3 (j:=2) hk (by omega) ((L.getD k (0,[],0)).1,(L.getD k (0,[],0)).2.1,(wrap64 ((fI L k).n+1))) (.int .i64 (wrap64 ((fI L k).n+1))) rfl (C3.out.text k hk)
  go_upto_region 20 with fail
  generalize W3.setCell ⟨g1,k*3+2,none⟩ (.int .i64 (wrap64 ((fI L k).n+1)))=W4 at C4 ⊢
  obtain ⟨L',hL⟩:∃ L',L'=L.set k ((L.getD k (0,[],0)).1,(L.getD k (0,[],0)).2.1,(wrap64 ((fI L k).n+1))):=⟨_,rfl⟩
  have lq:L'.length=L.length:=by rw [hL,List.length_set]
  rw [← hL] at C4
  clear hL x0 x1 x2 fz0 fz1 fz2 gl C3
  have pb:=C4.out.st.2.2.1
  have zl:=pb.lt
  have d0:=pb.c0
  have d1:=pb.fz 0
  have fin:=hide (C4.out.fin (.slice (some ⟨g1,0,none⟩) L.length c1))
  clear pb
  go_wp2
  obtain ⟨f1,f2,f3,f4,f5,f6⟩:=fin.out
  try simp only [Exit.inBlock,Exit.then]
  refine bodyPost_ret (res_prog1 rfl _ _ (w.heap.size+1) _ rfl f1) rfl ?_
  exact ⟨L',g1,c1,by rw [lq],f2,by omega,by omega,f4,_,by omega,f5,f6⟩
 ·have C3':=hide (C3.out.below ((Below.refl W3.heap.size W3).alloc lr (.cells #[.int .i64 (-1),.int .i64 2000,.int .i64 2001,.int .i64 200,.int .i64 201,.int .i64 1000000007] 3)))
  have sz3:=C3'.out.st.lt
  have v0:∀ j u,(#[.int .i64 (-1),.int .i64 2000,.int .i64 2001,.int .i64 200,.int .i64 201,.int .i64 1000000007]:Array Value)[j]?=some u→(W3.alloc (.cells #[.int .i64 (-1),.int .i64 2000,.int .i64 2001,.int .i64 200,.int .i64 201,.int .i64 1000000007] 3)).cell? ⟨W3.heap.size,j,none⟩=some u:=fun j u hu=>box1 W3 _ _ _ j u rfl hu
  have rl:=C3.out.st.rd.lt
  have V0:=hide v0
  clear v0
  go_wp2_with fail
  refine (pick_any R _ 6 _ C3'.out.st.rd (by omega) (by omega) (by omega)).mono ?_
  rintro e W4 ⟨y,rfl,y0,y1,hR,hO⟩
  have C4:=hide (C3'.out.only hO hR)
  have hv:∀ j u,(#[.int .i64 (-1),.int .i64 2000,.int .i64 2001,.int .i64 200,.int .i64 201,.int .i64 1000000007]:Array Value)[j]?=some u→W4.cell? ⟨W3.heap.size,j,none⟩=some u:=fun j u hu=>(hO.cell W3.heap.size j (by simp) (by omega)).trans (V0.out j u hu)
  have sz4:W3.heap.size<W4.heap.size:=by have:=hO.size;simp at this;omega
  clear hO hR C3 C3' V0
  rcases (show y=0∨y=1∨y=2∨y=3∨y=4∨y=5 by omega) with rfl | rfl | rfl | rfl | rfl | rfl
  ·have cv:=hv 0 (.int .i64 (-1)) rfl
   clear hv
   obtain ⟨x0,x1,x2⟩:=C4.out.ir.at k hk
   rw [Nat.zero_add] at x0 x1 x2
   have fz0:=C4.out.ir.fz (k*3)
   have fz1:=C4.out.ir.fz (k*3+1)
   have fz2:=C4.out.ir.fz (k*3+2)
   have gl:=C4.out.ir.lt.2
   have C5:Hid (SC w R (w.heap.size+1) (W4.setCell ⟨g1,k*3+2,none⟩ (.int .i64 (-1))) _ g1 c1 (L.set k ((L.getD k (0,[],0)).1,(L.getD k (0,[],0)).2.1,(-1))) 200):=C4.out.set3 (j:=2) hk (by omega) ((L.getD k (0,[],0)).1,(L.getD k (0,[],0)).2.1,(-1)) (.int .i64 (-1)) rfl (C4.out.text k hk)
   go_upto_region 20 with fail
   generalize W4.setCell ⟨g1,k*3+2,none⟩ (.int .i64 (-1))=W5 at C5 ⊢
   obtain ⟨L',hL⟩:∃ L',L'=L.set k ((L.getD k (0,[],0)).1,(L.getD k (0,[],0)).2.1,(-1)):=⟨_,rfl⟩
   have lq:L'.length=L.length:=by rw [hL,List.length_set]
   rw [← hL] at C5
   clear hL x0 x1 x2 fz0 fz1 fz2 gl C4
   have pb:=C5.out.st.2.2.1
   have zl:=pb.lt
   have d0:=pb.c0
   have d1:=pb.fz 0
   have fin:=hide (C5.out.fin (.slice (some ⟨g1,0,none⟩) L.length c1))
   clear pb
   go_wp2
   obtain ⟨f1,f2,f3,f4,f5,f6⟩:=fin.out
   try simp only [Exit.inBlock,Exit.then]
   refine bodyPost_ret (res_prog1 rfl _ _ (w.heap.size+1) _ rfl f1) rfl ?_
   exact ⟨L',g1,c1,by rw [lq],f2,by omega,by omega,f4,_,by omega,f5,f6⟩
  ·have cv:=hv 1 (.int .i64 2000) rfl
   clear hv
   obtain ⟨x0,x1,x2⟩:=C4.out.ir.at k hk
   rw [Nat.zero_add] at x0 x1 x2
   have fz0:=C4.out.ir.fz (k*3)
   have fz1:=C4.out.ir.fz (k*3+1)
   have fz2:=C4.out.ir.fz (k*3+2)
   have gl:=C4.out.ir.lt.2
   have C5:Hid (SC w R (w.heap.size+1) (W4.setCell ⟨g1,k*3+2,none⟩ (.int .i64 2000)) _ g1 c1 (L.set k ((L.getD k (0,[],0)).1,(L.getD k (0,[],0)).2.1,2000)) 200):=C4.out.set3 (j:=2) hk (by omega) ((L.getD k (0,[],0)).1,(L.getD k (0,[],0)).2.1,2000) (.int .i64 2000) rfl (C4.out.text k hk)
   go_upto_region 20 with fail
   generalize W4.setCell ⟨g1,k*3+2,none⟩ (.int .i64 2000)=W5 at C5 ⊢
   obtain ⟨L',hL⟩:∃ L',L'=L.set k ((L.getD k (0,[],0)).1,(L.getD k (0,[],0)).2.1,2000):=⟨_,rfl⟩
   have lq:L'.length=L.length:=by rw [hL,List.length_set]
   rw [← hL] at C5
   clear hL x0 x1 x2 fz0 fz1 fz2 gl C4
   have pb:=C5.out.st.2.2.1
   have zl:=pb.lt
   have d0:=pb.c0
   have d1:=pb.fz 0
   have fin:=hide (C5.out.fin (.slice (some ⟨g1,0,none⟩) L.length c1))
   clear pb
   go_wp2
   obtain ⟨f1,f2,f3,f4,f5,f6⟩:=fin.out
   try simp only [Exit.inBlock,Exit.then]
   refine bodyPost_ret (res_prog1 rfl _ _ (w.heap.size+1) _ rfl f1) rfl ?_
   exact ⟨L',g1,c1,by rw [lq],f2,by omega,by omega,f4,_,by omega,f5,f6⟩
  ·have cv:=hv 2 (.int .i64 2001) rfl
   clear hv
   obtain ⟨x0,x1,x2⟩:=C4.out.ir.at k hk
   rw [Nat.zero_add] at x0 x1 x2
   have fz0:=C4.out.ir.fz (k*3)
   have fz1:=C4.out.ir.fz (k*3+1)
   have fz2:=C4.out.ir.fz (k*3+2)
   have gl:=C4.out.ir.lt.2
   have C5:Hid (SC w R (w.heap.size+1) (W4.setCell ⟨g1,k*3+2,none⟩ (.int .i64 2001)) _ g1 c1 (L.set k ((L.getD k (0,[],0)).1,(L.getD k (0,[],0)).2.1,2001)) 200):=C4.out.set3 (j:=2) hk (by omega) ((L.getD k (0,[],0)).1,(L.getD k (0,[],0)).2.1,2001) (.int .i64 2001) rfl (C4.out.text k hk)
   go_upto_region 20 with fail
   generalize W4.setCell ⟨g1,k*3+2,none⟩ (.int .i64 2001)=W5 at C5 ⊢
   obtain ⟨L',hL⟩:∃ L',L'=L.set k ((L.getD k (0,[],0)).1,(L.getD k (0,[],0)).2.1,2001):=⟨_,rfl⟩
   have lq:L'.length=L.length:=by rw [hL,List.length_set]
   rw [← hL] at C5
   clear hL x0 x1 x2 fz0 fz1 fz2 gl C4
   have pb:=C5.out.st.2.2.1
   have zl:=pb.lt
   have d0:=pb.c0
   have d1:=pb.fz 0
   have fin:=hide (C5.out.fin (.slice (some ⟨g1,0,none⟩) L.length c1))
   clear pb
   go_wp2
   obtain ⟨f1,f2,f3,f4,f5,f6⟩:=fin.out
   try simp only [Exit.inBlock,Exit.then]
   refine bodyPost_ret (res_prog1 rfl _ _ (w.heap.size+1) _ rfl f1) rfl ?_
   exact ⟨L',g1,c1,by rw [lq],f2,by omega,by omega,f4,_,by omega,f5,f6⟩
  ·have cv:=hv 3 (.int .i64 200) rfl
   clear hv
   obtain ⟨x0,x1,x2⟩:=C4.out.ir.at k hk
   rw [Nat.zero_add] at x0 x1 x2
   have fz0:=C4.out.ir.fz (k*3)
   have fz1:=C4.out.ir.fz (k*3+1)
   have fz2:=C4.out.ir.fz (k*3+2)
   have gl:=C4.out.ir.lt.2
   have C5:Hid (SC w R (w.heap.size+1) (W4.setCell ⟨g1,k*3+2,none⟩ (.int .i64 200)) _ g1 c1 (L.set k ((L.getD k (0,[],0)).1,(L.getD k (0,[],0)).2.1,200)) 200):=C4.out.set3 (j:=2) hk (by omega) ((L.getD k (0,[],0)).1,(L.getD k (0,[],0)).2.1,200) (.int .i64 200) rfl (C4.out.text k hk)
   go_upto_region 20 with fail
   generalize W4.setCell ⟨g1,k*3+2,none⟩ (.int .i64 200)=W5 at C5 ⊢
   obtain ⟨L',hL⟩:∃ L',L'=L.set k ((L.getD k (0,[],0)).1,(L.getD k (0,[],0)).2.1,200):=⟨_,rfl⟩
   have lq:L'.length=L.length:=by rw [hL,List.length_set]
   rw [← hL] at C5
   clear hL x0 x1 x2 fz0 fz1 fz2 gl C4
   have pb:=C5.out.st.2.2.1
   have zl:=pb.lt
   have d0:=pb.c0
   have d1:=pb.fz 0
   have fin:=hide (C5.out.fin (.slice (some ⟨g1,0,none⟩) L.length c1))
   clear pb
   go_wp2
   obtain ⟨f1,f2,f3,f4,f5,f6⟩:=fin.out
   try simp only [Exit.inBlock,Exit.then]
   refine bodyPost_ret (res_prog1 rfl _ _ (w.heap.size+1) _ rfl f1) rfl ?_
   exact ⟨L',g1,c1,by rw [lq],f2,by omega,by omega,f4,_,by omega,f5,f6⟩
  ·have cv:=hv 4 (.int .i64 201) rfl
   clear hv
   obtain ⟨x0,x1,x2⟩:=C4.out.ir.at k hk
   rw [Nat.zero_add] at x0 x1 x2
   have fz0:=C4.out.ir.fz (k*3)
   have fz1:=C4.out.ir.fz (k*3+1)
   have fz2:=C4.out.ir.fz (k*3+2)
   have gl:=C4.out.ir.lt.2
   have C5:Hid (SC w R (w.heap.size+1) (W4.setCell ⟨g1,k*3+2,none⟩ (.int .i64 201)) _ g1 c1 (L.set k ((L.getD k (0,[],0)).1,(L.getD k (0,[],0)).2.1,201)) 200):=C4.out.set3 (j:=2) hk (by omega) ((L.getD k (0,[],0)).1,(L.getD k (0,[],0)).2.1,201) (.int .i64 201) rfl (C4.out.text k hk)
   go_upto_region 20 with fail
   generalize W4.setCell ⟨g1,k*3+2,none⟩ (.int .i64 201)=W5 at C5 ⊢
   obtain ⟨L',hL⟩:∃ L',L'=L.set k ((L.getD k (0,[],0)).1,(L.getD k (0,[],0)).2.1,201):=⟨_,rfl⟩
   have lq:L'.length=L.length:=by rw [hL,List.length_set]
   rw [← hL] at C5
   clear hL x0 x1 x2 fz0 fz1 fz2 gl C4
   have pb:=C5.out.st.2.2.1
   have zl:=pb.lt
   have d0:=pb.c0
   have d1:=pb.fz 0
   have fin:=hide (C5.out.fin (.slice (some ⟨g1,0,none⟩) L.length c1))
   clear pb
   go_wp2
   obtain ⟨f1,f2,f3,f4,f5,f6⟩:=fin.out
   try simp only [Exit.inBlock,Exit.then]
   refine bodyPost_ret (res_prog1 rfl _ _ (w.heap.size+1) _ rfl f1) rfl ?_
   exact ⟨L',g1,c1,by rw [lq],f2,by omega,by omega,f4,_,by omega,f5,f6⟩
  ·have cv:=hv 5 (.int .i64 1000000007) rfl
   clear hv
   obtain ⟨x0,x1,x2⟩:=C4.out.ir.at k hk
   rw [Nat.zero_add] at x0 x1 x2
   have fz0:=C4.out.ir.fz (k*3)
   have fz1:=C4.out.ir.fz (k*3+1)
   have fz2:=C4.out.ir.fz (k*3+2)
   have gl:=C4.out.ir.lt.2
   have C5:Hid (SC w R (w.heap.size+1) (W4.setCell ⟨g1,k*3+2,none⟩ (.int .i64 1000000007)) _ g1 c1 (L.set k ((L.getD k (0,[],0)).1,(L.getD k (0,[],0)).2.1,1000000007)) 200):=C4.out.set3 (j:=2) hk (by omega) ((L.getD k (0,[],0)).1,(L.getD k (0,[],0)).2.1,1000000007) (.int .i64 1000000007) rfl (C4.out.text k hk)
   go_upto_region 20 with fail
   generalize W4.setCell ⟨g1,k*3+2,none⟩ (.int .i64 1000000007)=W5 at C5 ⊢
   obtain ⟨L',hL⟩:∃ L',L'=L.set k ((L.getD k (0,[],0)).1,(L.getD k (0,[],0)).2.1,1000000007):=⟨_,rfl⟩
   have lq:L'.length=L.length:=by rw [hL,List.length_set]
   rw [← hL] at C5
   clear hL x0 x1 x2 fz0 fz1 fz2 gl C4
   have pb:=C5.out.st.2.2.1
   have zl:=pb.lt
   have d0:=pb.c0
   have d1:=pb.fz 0
   have fin:=hide (C5.out.fin (.slice (some ⟨g1,0,none⟩) L.length c1))
   clear pb
   go_wp2
   obtain ⟨f1,f2,f3,f4,f5,f6⟩:=fin.out
   try simp only [Exit.inBlock,Exit.then]
   refine bodyPost_ret (res_prog1 rfl _ _ (w.heap.size+1) _ rfl f1) rfl ?_
   exact ⟨L',g1,c1,by rw [lq],f2,by omega,by omega,f4,_,by omega,f5,f6⟩
 ·go_wp2_with fail
  refine (pick_any R _ 2 _ C3.out.st.rd (by omega) (by omega) (by omega)).mono ?_
  rintro e W4 ⟨y,rfl,y0,y1,hR,hO⟩
  have C4:=hide (C3.out.only hO hR)
  clear hO hR C3
  go_wp2_with fail
  obtain ⟨m0,hm0⟩:∃ m0:Nat,2000+y=(m0:Int):=⟨(2000+y).toNat,by omega⟩
  rw [hm0]
  refine (l1Many_any ⟨#[116]⟩ m0 _ (by show 1*m0≤4000;omega) (by omega)).mono ?_
  rintro e Wm ⟨t,rfl,ht,hw⟩
  rw [hw]
  have h5:t.data.toList.length≤5000:=by
   rw [Array.length_toList]
   exact Nat.le_trans ht (by show 1*m0≤5000;omega)
  clear ht hm0 hw
  obtain ⟨x0,x1,x2⟩:=C4.out.ir.at k hk
  rw [Nat.zero_add] at x0 x1 x2
  have fz0:=C4.out.ir.fz (k*3)
  have fz1:=C4.out.ir.fz (k*3+1)
  have fz2:=C4.out.ir.fz (k*3+2)
  have gl:=C4.out.ir.lt.2
  have C5:Hid (SC w R (w.heap.size+1) (W4.setCell ⟨g1,k*3+1,none⟩ (.string t)) _ g1 c1 (L.set k ((L.getD k (0,[],0)).1,t.data.toList,(L.getD k (0,[],0)).2.2)) 200):=C4.out.set3 (j:=1) hk (by omega) ((L.getD k (0,[],0)).1,t.data.toList,(L.getD k (0,[],0)).2.2) (.string t) rfl h5
  go_upto_region 20 with fail
  generalize W4.setCell ⟨g1,k*3+1,none⟩ (.string t)=W5 at C5 ⊢
  obtain ⟨L',hL⟩:∃ L',L'=L.set k ((L.getD k (0,[],0)).1,t.data.toList,(L.getD k (0,[],0)).2.2):=⟨_,rfl⟩
  have lq:L'.length=L.length:=by rw [hL,List.length_set]
  rw [← hL] at C5
  clear hL x0 x1 x2 fz0 fz1 fz2 gl C4
  have pb:=C5.out.st.2.2.1
  have zl:=pb.lt
  have d0:=pb.c0
  have d1:=pb.fz 0
  have fin:=hide (C5.out.fin (.slice (some ⟨g1,0,none⟩) L.length c1))
  clear pb
  go_wp2
  obtain ⟨f1,f2,f3,f4,f5,f6⟩:=fin.out
  try simp only [Exit.inBlock,Exit.then]
  refine bodyPost_ret (res_prog1 rfl _ _ (w.heap.size+1) _ rfl f1) rfl ?_
  exact ⟨L',g1,c1,by rw [lq],f2,by omega,by omega,f4,_,by omega,f5,f6⟩
 ·have hc1:L.length≤c1:=by
   rcases C3.out.ir.2 with ⟨hv,_⟩ | ⟨_,_,_,hv,_,_,h1,_⟩
   ·simp at hv
   ·simp only [Value.slice.injEq] at hv
    omega
  have C4:=hide (C3.out.take k (by omega))
  obtain ⟨L',hL⟩:∃ L',L'=L.take k:=⟨_,rfl⟩
  have lq:L'.length=k:=by rw [hL,List.length_take];omega
  rw [← hL] at C4
  clear hL C3
  have pb:=C4.out.st.2.2.1
  have zl:=pb.lt
  have d0:=pb.c0
  have d1:=pb.fz 0
  have fin:=hide (C4.out.fin (.slice (some ⟨g1,0,none⟩) k c1))
  clear pb
  go_wp2
  obtain ⟨f1,f2,f3,f4,f5,f6⟩:=fin.out
  try simp only [Exit.inBlock,Exit.then]
  refine bodyPost_ret (res_prog1 rfl _ _ (w.heap.size+1) _ rfl f1) rfl ?_
  exact ⟨L',g1,c1,by rw [lq],f2,by omega,by omega,f4,_,by omega,f5,f6⟩
 ·have bd:=C3.out.len
  go_wp2
  go_loopw [5] (fun v wr=>∃ (g2 c2 q2:Nat) (M:List I3),v=.slice (some ⟨g2,0,none⟩) M.length c2∧SC w R (w.heap.size+1) wr q2 g2 c2 M 201∧q2≤p+10+M.length) (fun v _=>202 - (match v with | .slice _ n _=>n | _=>0))
  case atStart=>exact ⟨g1,c1,_,L,rfl,C3.out.mono (by omega),by omega⟩
  case round =>
   obtain ⟨g2,c2,q2,M,rfl,hC,hq⟩:=hrel
   have CC:=hide hC
   have ln:=hC.len
   clear hC C3
   go_wp2_with fail
   refine (pick_any R _ 2 _ CC.out.st.rd (by omega) (by omega) (by omega)).mono ?_
   rintro e W4 ⟨y,rfl,y0,y1,hR,hO⟩
   have C4:=hide (CC.out.only hO hR)
   clear hO hR CC
   by_cases hlt:(M.length:Int)<200+y
   ·go_wp2_with fail
    refine (l1Op_any 9 _).mono ?_
    rintro e W5 ⟨rfl,hB⟩
    have C5:=hide (C4.out.below hB)
    clear hB C4
    have X5:=hide (C5.out.below ((Below.refl W5.heap.size W5).alloc lr (.cells #[.int .i64 9,.string ⟨#[]⟩,.int .i64 0] 129)))
    have zl:=C5.out.st.lt
    go_wp2_with (at_builtin;refine wp_appI rfl (.tmp 81) (.tmp 83) rfl (w.heap.size+2) g2 c2 M (by simp [Act.eval]) X5.out.ir ⟨W5.heap.size,0,none⟩ 1 1 [(9,[],0)] (by simp [Act.eval]) rfl (by simp) (new_cells W5 #[.int .i64 9,.string ⟨#[]⟩,.int .i64 0] _) (by simp only [List.length_cons,List.length_nil];omega) (by simp;omega) ?_)
    intro g3 c3 W6 hI hG
    have C6:=hide (X5.out.app0 (n':=201) hI hG (by show M.length+1≤201;omega) (fun i hi=>by rw [List.mem_singleton.1 hi];exact Nat.zero_le _))
    clear hI hG X5 C5
    go_wp2
    exact ⟨⟨g3,c3,_,M++[(9,[],0)],by simp,C6.out,by simp only [List.length_append,List.length_cons,List.length_nil];omega⟩,by simp;omega⟩
   ·obtain ⟨L',hL⟩:∃ L',L'=M:=⟨_,rfl⟩
    have lq:L'.length=M.length:=by rw [hL]
    rw [← hL] at C4
    clear hL
    have pb:=C4.out.st.2.2.1
    have zl:=pb.lt
    have d0:=pb.c0
    have d1:=pb.fz 0
    have fin:=hide (C4.out.fin (.slice (some ⟨g2,0,none⟩) M.length c2))
    clear pb
    go_wp2
    obtain ⟨f1,f2,f3,f4,f5,f6⟩:=fin.out
    try simp only [Exit.inBlock,Exit.then]
    refine bodyPost_ret (res_prog1 rfl _ _ (w.heap.size+1) _ rfl f1) rfl ?_
    exact ⟨L',g2,c2,by rw [lq],f2,by omega,by omega,f4,_,by omega,f5,f6⟩
 ·obtain ⟨x0,x1,x2⟩:=C3.out.ir.at k hk
  rw [Nat.zero_add] at x0 x1 x2
  have fz0:=C3.out.ir.fz (k*3)
  have fz1:=C3.out.ir.fz (k*3+1)
  have fz2:=C3.out.ir.fz (k*3+2)
  have gl:=C3.out.ir.lt.2
  have C4:Hid (SC w R (w.heap.size+1) (W3.setCell ⟨g1,k*3+1,none⟩ (.string ⟨#[121]⟩)) _ g1 c1 (L.set k ((L.getD k (0,[],0)).1,[121],(L.getD k (0,[],0)).2.2)) 200):=C3.out.set3 (j:=1) hk (by omega) ((L.getD k (0,[],0)).1,[121],(L.getD k (0,[],0)).2.2) (.string ⟨#[121]⟩) rfl (by simp)
  go_upto_region 20 with fail
  generalize W3.setCell ⟨g1,k*3+1,none⟩ (.string ⟨#[121]⟩)=W4 at C4 ⊢
  obtain ⟨L',hL⟩:∃ L',L'=L.set k ((L.getD k (0,[],0)).1,[121],(L.getD k (0,[],0)).2.2):=⟨_,rfl⟩
  have lq:L'.length=L.length:=by rw [hL,List.length_set]
  rw [← hL] at C4
  clear hL x0 x1 x2 fz0 fz1 fz2 gl C3
  have pb:=C4.out.st.2.2.1
  have zl:=pb.lt
  have d0:=pb.c0
  have d1:=pb.fz 0
  have fin:=hide (C4.out.fin (.slice (some ⟨g1,0,none⟩) L.length c1))
  clear pb
  go_wp2
  obtain ⟨f1,f2,f3,f4,f5,f6⟩:=fin.out
  try simp only [Exit.inBlock,Exit.then]
  refine bodyPost_ret (res_prog1 rfl _ _ (w.heap.size+1) _ rfl f1) rfl ?_
  exact ⟨L',g1,c1,by rw [lq],f2,by omega,by omega,f4,_,by omega,f5,f6⟩
theorem l1Spoil_any (R p g c:Nat)(L:List I3)(w:World)(base:Nat)(hR:Rd w R p)(hp:p≤20000)(hI:IR w base g c L)(hn:L.length≤200)(hne:L≠[])(hT:∀ i∈L,i.2.1.length≤5000) :
  Calls Tryz.prog 94 #[.pointer (some ⟨R,0,none⟩),.agg #[.slice (some ⟨g,0,none⟩) L.length c]] w fun e w'=>DP w R (p+1000) 0 201 e w' :=
 l1Spoil_cells R p g c L w hR hp hI.lt.2 hI.news hn hne hT
theorem l1Words_any (n:Nat)(w:World)(hn:(n:Int)≤300) :
  Calls Tryz.prog 133 #[.int .i64 n] w fun e w'=>∃ (L:List I3) (g:Nat),e=.returned (.slice (some ⟨g,0,none⟩) 7 7)∧IR w' w.heap.size g 7 L∧L.length=7∧(∀ i∈L,i.2.1.length≤5000)∧Below w.heap.size w w':=by
 go_enter Tryz.func133,Tryz.ntmps133
 go_wp2_with fail
 refine (l1Many_any ⟨#[97,32]⟩ n _ (by show 2*n≤4000;omega) (by omega)).mono ?_
 rintro e Wx ⟨t,rfl,ht,hw⟩
 rw [hw]
 have h5:t.size≤5000:=Nat.le_trans ht (by show 2*n≤5000;omega)
 clear ht hw
 go_wp2_with fail
 refine (l1Lit_any t _).mono ?_
 rintro e W1 ⟨rfl,hB⟩
 have B1:=hide (hB)
 clear hB
 go_wp2_with fail
 refine (l1Op_any 7 _).mono ?_
 rintro e W2 ⟨rfl,hB⟩
 have B2:=hide (B1.out.trans (hB.mono B1.out.size))
 clear hB
 go_wp2_with fail
 refine (l1OpN_any 5 0 _).mono ?_
 rintro e W3 ⟨rfl,hB⟩
 have B3:=hide (B2.out.trans (hB.mono B2.out.size))
 clear hB
 go_wp2_with fail
 refine (l1Op_any 13 _).mono ?_
 rintro e W4 ⟨rfl,hB⟩
 have B4:=hide (B3.out.trans (hB.mono B3.out.size))
 clear hB
 go_wp2_with fail
 refine (l1Op_any 9 _).mono ?_
 rintro e W5 ⟨rfl,hB⟩
 have B5:=hide (B4.out.trans (hB.mono B4.out.size))
 clear hB
 go_wp2_with fail
 refine (l1OpN_any 4 2 _).mono ?_
 rintro e W6 ⟨rfl,hB⟩
 have B6:=hide (B5.out.trans (hB.mono B5.out.size))
 clear hB
 go_wp2_with fail
 refine (l1OpN_any 10 1 _).mono ?_
 rintro e W7 ⟨rfl,hB⟩
 have B7:=hide (B6.out.trans (hB.mono B6.out.size))
 clear hB
 go_wp2
 go_ret
 refine ⟨[(1,t.data.toList,0),(7,[],0),(5,[],0),(13,[],0),(9,[],0),(4,[],2),(10,[],1)],_,rfl,IR.new W7 _ B7.out.size _ _ rfl _ rfl (by omega),rfl,?_,B7.out.alloc B7.out.size _⟩
 intro i hi
 simp only [List.mem_cons,List.not_mem_nil,or_false] at hi
 rcases hi with rfl | rfl | rfl | rfl | rfl | rfl | rfl
 ·show t.data.toList.length≤5000
  rw [Array.length_toList]
  exact h5
 all_goals exact Nat.zero_le _
end Go.Proofs.YtpacbfkbhhnblaaGreatDoor.Vp
