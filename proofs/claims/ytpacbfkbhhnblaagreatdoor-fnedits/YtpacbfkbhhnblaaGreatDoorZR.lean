import Derived.Test.YtpacbfkbhhnblaaGreatDoorZL
import Derived.Test.YtpacbfkbhhnblaaGreatDoorZQ
import Derived.Test.YtpacbfkbhhnblaaGreatDoorZF
import Derived.Test.YtpacbfkbhhnblaaGreatDoorZI
set_option maxRecDepth 100000
set_option maxHeartbeats 8000000
namespace Go.Proofs.YtpacbfkbhhnblaaGreatDoor.Vp
open Go.RowKit
theorem res_ins1 {fn:Func}{p:Tmp}(h:fn.results=#[.cell p 129])(tmps:Array Value)(w:World)(g:Nat)(x y z:Value)(hp:tmps.getD p undef=.pointer (some ⟨g,0,none⟩))(hC:CI w g x y z) :
  (results fn tmps).run Tryz.prog w=.ok (.agg #[x,y,z]) w :=
 results_cell_row h tmps w g 129 #[x,y,z] (0,0) _ hp hC Tryz.underlying129 rfl sizeIns
theorem l1Lit_any (s:ByteArray)(w:World):Calls Tryz.prog 91 #[.string s] w fun e w'=>e=.returned (.agg #[.int .i64 1,.string s,.int .i64 0])∧Below w.heap.size w w':=by
 go_enter Tryz.func91,Tryz.ntmps91
 go_wp2
 try simp only [Exit.inBlock,Exit.then]
 refine bodyPost_ret (res_ins1 rfl _ _ w.heap.size _ _ _ rfl (CI.new w _ _ _)) rfl ?_
 exact ⟨rfl,(Below.refl _ _).alloc lr _⟩
theorem l1Op_any (op:Int)(w:World):Calls Tryz.prog 92 #[.int .i64 op] w fun e w'=>e=.returned (.agg #[.int .i64 op,.string ⟨#[]⟩,.int .i64 0])∧Below w.heap.size w w':=by
 go_enter Tryz.func92,Tryz.ntmps92
 go_wp2
 try simp only [Exit.inBlock,Exit.then]
 refine bodyPost_ret (res_ins1 rfl _ _ w.heap.size _ _ _ rfl (CI.new w _ _ _)) rfl ?_
 exact ⟨rfl,(Below.refl _ _).alloc lr _⟩
theorem l1OpN_any (op n:Int)(w:World):Calls Tryz.prog 131 #[.int .i64 op,.int .i64 n] w fun e w'=>e=.returned (.agg #[.int .i64 op,.string ⟨#[]⟩,.int .i64 n])∧Below w.heap.size w w':=by
 go_enter Tryz.func131,Tryz.ntmps131
 go_wp2
 try simp only [Exit.inBlock,Exit.then]
 refine bodyPost_ret (res_ins1 rfl _ _ w.heap.size _ _ _ rfl (CI.new w _ _ _)) rfl ?_
 exact ⟨rfl,(Below.refl _ _).alloc lr _⟩
theorem l1Small_any (n:Int)(w:World):Calls Tryz.prog 148 #[.int .i64 n] w fun e w'=>e=.returned (.int .i64 (if 200<n then 200 else n))∧w'=w:=by
 by_cases h:200<n
 ·rw [if_pos h]
  go_enter Tryz.func148,Tryz.ntmps148
  go_wp2
  go_ret
  exact ⟨rfl,rfl⟩
 ·rw [if_neg h]
  go_enter Tryz.func148,Tryz.ntmps148
  go_wp2
  go_ret
  exact ⟨rfl,rfl⟩
theorem l1Name_any (R p:Nat)(w:World)(hR:Rd w R p)(hp:(p:Int)≤90000) :
  Calls Tryz.prog 31 #[.pointer (some ⟨R,0,none⟩)] w fun e w'=>∃ t:ByteArray,e=.returned (.string t)∧t.size≤30∧Rd w' R (p+1)∧Only R w w':=by
 have HR:=hide hR
 clear hR
 go_enter Tryz.func31,Tryz.ntmps31
 go_wp2_with fail
 refine (pick_any R p 16 _ HR.out (by omega) (by omega) (by omega)).mono ?_
 rintro e w1 ⟨z,rfl,hz0,hz1,hR1,hO1⟩
 have R1:=hide hR1
 have O1:=hide hO1
 clear hR1 hO1
 by_cases h6:z<6
 ·rcases (show z=0∨z=1∨z=2∨z=3∨z=4∨z=5 by omega) with rfl | rfl | rfl | rfl | rfl | rfl
  all_goals
   go_wp2
   go_ret
   exact ⟨_,rfl,by decide,R1.out,O1.out⟩
 ·by_cases h14:z<14
  ·obtain ⟨m,rfl⟩:∃ m:Nat,z=(m:Int)+6:=⟨(z - 6).toNat,by omega⟩
   have hm:m≤7:=by omega
   have DC:=hide (fun V=>l1Dec_any m (by omega) V)
   have hd:=dec_len m (by omega)
   go_wp2_with fail
   refine (DC.out _).mono ?_
   rintro e w2 ⟨rfl,hB2⟩
   have R2:=hide (R1.out.below hB2 lr)
   have O2:=hide (O1.out.trans (Only.of_below hB2))
   clear hB2
   go_wp2
   go_ret
   exact ⟨_,rfl,by rw [ByteArray.size_append];show 1+(Lib.decDigits m).length≤30;omega,R2.out,O2.out⟩
  ·go_wp2
   go_ret
   exact ⟨_,rfl,by decide,R1.out,O1.out⟩
theorem infoInsF:∃ i,Tryz.prog.info? 129=some i∧i.zero=some (.agg #[.int .i64 0,.string ⟨#[]⟩,.int .i64 0])∧i.size=3∧i.bytes=32:=by
 obtain ⟨i,hi,hz⟩:=Option.map_eq_some_iff.1 infoIns
 simp only [Prod.mk.injEq] at hz
 exact ⟨i,hi,hz⟩
def IR (w:World)(base g c:Nat)(L:List I3):Prop:=w.ownsRow base 129 3 (.slice (some ⟨g,0,none⟩) L.length c) L.length (i3L L)
theorem IR.below {w w':World}{base g c B:Nat}{L:List I3}(h:IR w base g c L)(hb:Below B w w')(hB:w.heap.size≤B):IR w' base g c L:=own_below h hb hB
theorem IR.lt {w:World}{base g c:Nat}{L:List I3}(h:IR w base g c L):base≤g∧g<w.heap.size:=World.ownsRow.lt h g rfl
theorem IR.only {w w':World}{base g c R:Nat}{L:List I3}(h:IR w base g c L)(ho:Only R w w')(hR:R<base):IR w' base g c L:=own_only h ho hR
theorem IR.lit (w:World):IR (w.alloc (.cells #[] 129)) w.heap.size w.heap.size 0 [] :=
 ⟨by simp [i3L],.inr ⟨w.heap.size,0,#[],rfl,Nat.le_refl _,heap_alloc_new w _,Nat.le_refl _,by unfold maxLen;omega,by simp,by simp [i3L]⟩⟩
theorem i3L_app (L M:List I3):i3L (L++M)=i3L L++i3L M:=by simp [i3L]
theorem i3L_one (L:List I3):∀ u∈i3L L,u.oneCell'=true:=by
 intro u hu
 simp only [i3L,List.mem_flatMap,i3V] at hu
 obtain ⟨x,_,hx⟩:=hu
 simp at hx
 rcases hx with rfl | rfl | rfl<;>simp [Value.oneCell']
theorem addr_addF (b off j:Nat):(⟨b,off,none⟩:Addr).add j=⟨b,off+j,none⟩:=by
 unfold Addr.add
 split<;>simp_all
theorem new_cells (w:World)(cs:Array Value)(t:TypeId):∀ j u,cs.toList[j]?=some u→(w.alloc (.cells cs t)).cell? ((⟨w.heap.size,0,none⟩:Addr).add j)=some u:=by
 intro j u hj
 rw [addr_addF,Nat.zero_add]
 exact box1 w cs t w.heap.size j u rfl (by simpa using hj)
theorem IR.news {w:World}{base g c:Nat}{L:List I3}(h:IR w base g c L):∀ j u,(i3L L)[j]?=some u→w.cell? ((⟨g,0,none⟩:Addr).add j)=some u:=fun j u hu=>World.ownsRow.cells h (g:=g) rfl j u hu
theorem wp_appI {ops:Array Oper}{rest:List Oper}{o:Oper}{a:Act}{Q:Exit→Act→World→Prop}{w:World}(hgd:o.guard=none)(s x:Operand)
  (ho:o.op=.call { callee:=.builtin .append,args:=#[s,x],argTypes:=#[29,29] }) (base g c:Nat) (L:List I3) (hs:a.eval s=.slice (some ⟨g,0,none⟩) L.length c) (hown:IR w base g c L)
  (ad:Addr) (m d:Nat) (M:List I3) (hx:a.eval x=.slice (some ad) m d) (hm:m=M.length) (hne:M≠[]) (hnews:∀ j u,(i3L M)[j]?=some u→w.cell? (ad.add j)=some u) (hlen:L.length+M.length≤100000) (hb:base≤w.heap.size)
  (h:∀ g' c' w',IR w' base g' c' (L++M)→w.grownBy w' (some g)→wpList Tryz.prog ops Q rest (a.put o.dst (.slice (some ⟨g',0,none⟩) (L++M).length c')) w'):wpList Tryz.prog ops Q (o :: rest) a w:=by
 obtain ⟨i0,hi,hy0,hy1,hy2⟩:=infoInsF
 subst hm
 refine wpList_append_own _ hgd s x 29 ho base 129 i0 (.agg #[.int .i64 0,.string ⟨#[]⟩,.int .i64 0]) 3 32 Tryz.underlying29 hi hy0 hy1 hy2 rfl (by decide) _ L.length (i3L L) hs hown ad M.length d (i3L M) hx (i3L_len M) hnews (i3L_one M) (by unfold maxLen;omega) (by omega) hb ?_
 intro v' w' hw hg _
 have hp:0<M.length:=List.length_pos_iff.2 hne
 have hv:∃ g' c',v'=.slice (some ⟨g',0,none⟩) (L.length+M.length) c':=by
  rcases hw.2 with ⟨_,h0⟩ | ⟨g',cap,cur,hv,_⟩
  ·omega
  ·exact ⟨g',cap,hv⟩
 obtain ⟨g',c',rfl⟩:=hv
 have e:(L++M).length=L.length+M.length:=List.length_append
 rw [← e] at hw ⊢
 rw [← i3L_app] at hw
 exact h g' c' w' hw hg
def DI (w:World)(R q n:Nat)(e:Ending)(w':World):Prop:=∃ (L:List I3) (g c:Nat),e=.returned (.slice (some ⟨g,0,none⟩) L.length c)∧IR w' w.heap.size g c L∧L≠[]∧L.length≤n∧(∀ i∈L,i.2.1.length≤5000)∧∃ q':Nat,q'≤q∧Rd w' R q'∧Only R w w'
theorem l1Value_0 (R p:Nat)(at_:Int)(w:World)(hR:Rd w R p)(hp:p+14≤30000) :
  Calls Tryz.prog 132 #[.pointer (some ⟨R,0,none⟩),.int .i64 at_,.int .i64 0] w fun e w'=>DI w R (p+14) 4 e w':=by
 have hRb:=hR.lt
 have A0:=(Below.refl w.heap.size w).alloc lr (.cells #[] 129)
 have I0:=hide (IR.lit w)
 have R0:=hide (hR.below A0 lr)
 have O0:Hid (Only R w (w.alloc (.cells #[] 129))):=Only.of_below A0
 clear A0 hR
 go_enter Tryz.func132,Tryz.ntmps132
 go_wp2_with fail
 generalize w.alloc (.cells #[] 129)=W0 at I0 R0 O0 ⊢
 refine (pick_any R _ 12 _ R0.out (by omega) (by omega) (by omega)).mono ?_
 rintro e W1 ⟨z,rfl,z0,z1,hR,hO⟩
 obtain ⟨q1,hq1⟩:∃ q1,q1=p+1:=⟨_,rfl⟩
 rw [← hq1] at hR
 have I1:=hide (I0.out.only hO hRb)
 have R1:=hide hR
 have O1:=hide (O0.out.trans hO)
 clear hO hR I0 R0 O0
 rcases (show z=0∨z=1∨z=2∨z=3∨z=4∨z=5∨z=6∨z=7∨z=8∨z=9∨z=10∨z=11 by omega) with rfl | rfl | rfl | rfl | rfl | rfl | rfl | rfl | rfl | rfl | rfl | rfl
 ·go_wp2_with fail
  refine (l1Text_any R _ _ R1.out (by omega)).mono ?_
  rintro e W2 ⟨t,rfl,ht,q2,hq2,hR,hO⟩
  have I2:=hide (I1.out.only hO hRb)
  have R2:=hide hR
  have O2:=hide (O1.out.trans hO)
  clear hO hR
  go_wp2_with fail
  refine (l1Lit_any t _).mono ?_
  rintro e W3 ⟨rfl,hB⟩
  obtain ⟨q3,hq3⟩:∃ q3,q3=q2:=⟨_,rfl⟩
  rw [← hq3] at R2
  have I3:=hide (I2.out.below hB lr)
  have R3:=hide (R2.out.below hB lr)
  have O3:=hide (O2.out.trans (Only.of_below hB))
  clear hB
  have X3:=hide (I3.out.below ((Below.refl W3.heap.size W3).alloc lr (.cells #[.int .i64 1,.string t,.int .i64 0] 129)) lr)
  go_wp2_with (at_builtin;refine wp_appI rfl (.tmp 26) (.tmp 30) rfl w.heap.size w.heap.size 0 [] (by simp [Act.eval]) X3.out ⟨W3.heap.size,0,none⟩ 1 1 [(1,t.data.toList,0)] (by simp [Act.eval]) rfl (by simp) (new_cells W3 #[.int .i64 1,.string t,.int .i64 0] _) (by simp only [List.length_cons,List.length_nil];omega) (by have:=O3.out.size;simp;omega) ?_)
  intro g9 c9 w9 hI hG
  have BG:=Below.grown ((Below.refl w.heap.size W3).alloc O3.out.size (.cells #[.int .i64 1,.string t,.int .i64 0] 129)) hG (by have:=O3.out.size;simp;omega) (fun k e=>by have:=I3.out.lt;simp at e;omega)
  have I9:=hide hI
  have R9:=hide (R3.out.low BG hRb)
  have O9:=hide (O3.out.then BG)
  clear hI hG BG
  go_wp2
  go_ret
  refine ⟨_,g9,c9,rfl,I9.out,by simp,by simp only [List.length_cons,List.length_nil];omega,?_,q3,by omega,R9.out,O9.out⟩
  intro i hi
  simp only [List.mem_cons,List.not_mem_nil,or_false] at hi
  subst hi
  show t.data.toList.length≤5000
  rw [Array.length_toList]
  show t.size≤5000
  omega
 ·go_wp2_with fail
  refine (l1Text_any R _ _ R1.out (by omega)).mono ?_
  rintro e W2 ⟨t,rfl,ht,q2,hq2,hR,hO⟩
  have I2:=hide (I1.out.only hO hRb)
  have R2:=hide hR
  have O2:=hide (O1.out.trans hO)
  clear hO hR
  go_wp2_with fail
  refine (l1Lit_any t _).mono ?_
  rintro e W3 ⟨rfl,hB⟩
  obtain ⟨q3,hq3⟩:∃ q3,q3=q2:=⟨_,rfl⟩
  rw [← hq3] at R2
  have I3:=hide (I2.out.below hB lr)
  have R3:=hide (R2.out.below hB lr)
  have O3:=hide (O2.out.trans (Only.of_below hB))
  clear hB
  have X3:=hide (I3.out.below ((Below.refl W3.heap.size W3).alloc lr (.cells #[.int .i64 1,.string t,.int .i64 0] 129)) lr)
  go_wp2_with (at_builtin;refine wp_appI rfl (.tmp 26) (.tmp 30) rfl w.heap.size w.heap.size 0 [] (by simp [Act.eval]) X3.out ⟨W3.heap.size,0,none⟩ 1 1 [(1,t.data.toList,0)] (by simp [Act.eval]) rfl (by simp) (new_cells W3 #[.int .i64 1,.string t,.int .i64 0] _) (by simp only [List.length_cons,List.length_nil];omega) (by have:=O3.out.size;simp;omega) ?_)
  intro g9 c9 w9 hI hG
  have BG:=Below.grown ((Below.refl w.heap.size W3).alloc O3.out.size (.cells #[.int .i64 1,.string t,.int .i64 0] 129)) hG (by have:=O3.out.size;simp;omega) (fun k e=>by have:=I3.out.lt;simp at e;omega)
  have I9:=hide hI
  have R9:=hide (R3.out.low BG hRb)
  have O9:=hide (O3.out.then BG)
  clear hI hG BG
  go_wp2
  go_ret
  refine ⟨_,g9,c9,rfl,I9.out,by simp,by simp only [List.length_cons,List.length_nil];omega,?_,q3,by omega,R9.out,O9.out⟩
  intro i hi
  simp only [List.mem_cons,List.not_mem_nil,or_false] at hi
  subst hi
  show t.data.toList.length≤5000
  rw [Array.length_toList]
  show t.size≤5000
  omega
 ·go_wp2_with fail
  refine (l1Name_any R _ _ R1.out (by omega)).mono ?_
  rintro e W2 ⟨t,rfl,ht,hR,hO⟩
  obtain ⟨q2,hq2⟩:∃ q2,q2=q1+1:=⟨_,rfl⟩
  rw [← hq2] at hR
  have I2:=hide (I1.out.only hO hRb)
  have R2:=hide hR
  have O2:=hide (O1.out.trans hO)
  clear hO hR
  go_wp2_with fail
  refine (l1Lit_any t _).mono ?_
  rintro e W3 ⟨rfl,hB⟩
  obtain ⟨q3,hq3⟩:∃ q3,q3=q2:=⟨_,rfl⟩
  rw [← hq3] at R2
  have I3:=hide (I2.out.below hB lr)
  have R3:=hide (R2.out.below hB lr)
  have O3:=hide (O2.out.trans (Only.of_below hB))
  clear hB
  go_wp2_with fail
  refine (l1Op_any 12 _).mono ?_
  rintro e W4 ⟨rfl,hB⟩
  obtain ⟨q4,hq4⟩:∃ q4,q4=q3:=⟨_,rfl⟩
  rw [← hq4] at R3
  have I4:=hide (I3.out.below hB lr)
  have R4:=hide (R3.out.below hB lr)
  have O4:=hide (O3.out.trans (Only.of_below hB))
  clear hB
  have X4:=hide (I4.out.below ((Below.refl W4.heap.size W4).alloc lr (.cells #[.int .i64 1,.string t,.int .i64 0,.int .i64 12,.string ⟨#[]⟩,.int .i64 0] 129)) lr)
  go_wp2_with (at_builtin;refine wp_appI rfl (.tmp 36) (.tmp 41) rfl w.heap.size w.heap.size 0 [] (by simp [Act.eval]) X4.out ⟨W4.heap.size,0,none⟩ 2 2 [(1,t.data.toList,0),(12,[],0)] (by simp [Act.eval]) rfl (by simp) (new_cells W4 #[.int .i64 1,.string t,.int .i64 0,.int .i64 12,.string ⟨#[]⟩,.int .i64 0] _) (by simp only [List.length_cons,List.length_nil];omega) (by have:=O4.out.size;simp;omega) ?_)
  intro g9 c9 w9 hI hG
  have BG:=Below.grown ((Below.refl w.heap.size W4).alloc O4.out.size (.cells #[.int .i64 1,.string t,.int .i64 0,.int .i64 12,.string ⟨#[]⟩,.int .i64 0] 129)) hG (by have:=O4.out.size;simp;omega) (fun k e=>by have:=I4.out.lt;simp at e;omega)
  have I9:=hide hI
  have R9:=hide (R4.out.low BG hRb)
  have O9:=hide (O4.out.then BG)
  clear hI hG BG
  go_wp2
  go_ret
  refine ⟨_,g9,c9,rfl,I9.out,by simp,by simp only [List.length_cons,List.length_nil];omega,?_,q4,by omega,R9.out,O9.out⟩
  intro i hi
  simp only [List.mem_cons,List.not_mem_nil,or_false] at hi
  rcases hi with rfl | rfl
  ·show t.data.toList.length≤5000;rw [Array.length_toList];show t.size≤5000;omega
  ·exact Nat.zero_le _
 ·go_wp2_with fail
  refine (l1Name_any R _ _ R1.out (by omega)).mono ?_
  rintro e W2 ⟨t,rfl,ht,hR,hO⟩
  obtain ⟨q2,hq2⟩:∃ q2,q2=q1+1:=⟨_,rfl⟩
  rw [← hq2] at hR
  have I2:=hide (I1.out.only hO hRb)
  have R2:=hide hR
  have O2:=hide (O1.out.trans hO)
  clear hO hR
  go_wp2_with fail
  refine (l1Lit_any t _).mono ?_
  rintro e W3 ⟨rfl,hB⟩
  obtain ⟨q3,hq3⟩:∃ q3,q3=q2:=⟨_,rfl⟩
  rw [← hq3] at R2
  have I3:=hide (I2.out.below hB lr)
  have R3:=hide (R2.out.below hB lr)
  have O3:=hide (O2.out.trans (Only.of_below hB))
  clear hB
  go_wp2_with fail
  refine (l1Op_any 12 _).mono ?_
  rintro e W4 ⟨rfl,hB⟩
  obtain ⟨q4,hq4⟩:∃ q4,q4=q3:=⟨_,rfl⟩
  rw [← hq4] at R3
  have I4:=hide (I3.out.below hB lr)
  have R4:=hide (R3.out.below hB lr)
  have O4:=hide (O3.out.trans (Only.of_below hB))
  clear hB
  have X4:=hide (I4.out.below ((Below.refl W4.heap.size W4).alloc lr (.cells #[.int .i64 1,.string t,.int .i64 0,.int .i64 12,.string ⟨#[]⟩,.int .i64 0] 129)) lr)
  go_wp2_with (at_builtin;refine wp_appI rfl (.tmp 36) (.tmp 41) rfl w.heap.size w.heap.size 0 [] (by simp [Act.eval]) X4.out ⟨W4.heap.size,0,none⟩ 2 2 [(1,t.data.toList,0),(12,[],0)] (by simp [Act.eval]) rfl (by simp) (new_cells W4 #[.int .i64 1,.string t,.int .i64 0,.int .i64 12,.string ⟨#[]⟩,.int .i64 0] _) (by simp only [List.length_cons,List.length_nil];omega) (by have:=O4.out.size;simp;omega) ?_)
  intro g9 c9 w9 hI hG
  have BG:=Below.grown ((Below.refl w.heap.size W4).alloc O4.out.size (.cells #[.int .i64 1,.string t,.int .i64 0,.int .i64 12,.string ⟨#[]⟩,.int .i64 0] 129)) hG (by have:=O4.out.size;simp;omega) (fun k e=>by have:=I4.out.lt;simp at e;omega)
  have I9:=hide hI
  have R9:=hide (R4.out.low BG hRb)
  have O9:=hide (O4.out.then BG)
  clear hI hG BG
  go_wp2
  go_ret
  refine ⟨_,g9,c9,rfl,I9.out,by simp,by simp only [List.length_cons,List.length_nil];omega,?_,q4,by omega,R9.out,O9.out⟩
  intro i hi
  simp only [List.mem_cons,List.not_mem_nil,or_false] at hi
  rcases hi with rfl | rfl
  ·show t.data.toList.length≤5000;rw [Array.length_toList];show t.size≤5000;omega
  ·exact Nat.zero_le _
 ·go_wp2_with fail
  refine (l1Name_any R _ _ R1.out (by omega)).mono ?_
  rintro e W2 ⟨t,rfl,ht,hR,hO⟩
  obtain ⟨q2,hq2⟩:∃ q2,q2=q1+1:=⟨_,rfl⟩
  rw [← hq2] at hR
  have I2:=hide (I1.out.only hO hRb)
  have R2:=hide hR
  have O2:=hide (O1.out.trans hO)
  clear hO hR
  go_wp2_with fail
  refine (l1Lit_any t _).mono ?_
  rintro e W3 ⟨rfl,hB⟩
  obtain ⟨q3,hq3⟩:∃ q3,q3=q2:=⟨_,rfl⟩
  rw [← hq3] at R2
  have I3:=hide (I2.out.below hB lr)
  have R3:=hide (R2.out.below hB lr)
  have O3:=hide (O2.out.trans (Only.of_below hB))
  clear hB
  go_wp2_with fail
  refine (l1Op_any 12 _).mono ?_
  rintro e W4 ⟨rfl,hB⟩
  obtain ⟨q4,hq4⟩:∃ q4,q4=q3:=⟨_,rfl⟩
  rw [← hq4] at R3
  have I4:=hide (I3.out.below hB lr)
  have R4:=hide (R3.out.below hB lr)
  have O4:=hide (O3.out.trans (Only.of_below hB))
  clear hB
  have X4:=hide (I4.out.below ((Below.refl W4.heap.size W4).alloc lr (.cells #[.int .i64 1,.string t,.int .i64 0,.int .i64 12,.string ⟨#[]⟩,.int .i64 0] 129)) lr)
  go_wp2_with (at_builtin;refine wp_appI rfl (.tmp 36) (.tmp 41) rfl w.heap.size w.heap.size 0 [] (by simp [Act.eval]) X4.out ⟨W4.heap.size,0,none⟩ 2 2 [(1,t.data.toList,0),(12,[],0)] (by simp [Act.eval]) rfl (by simp) (new_cells W4 #[.int .i64 1,.string t,.int .i64 0,.int .i64 12,.string ⟨#[]⟩,.int .i64 0] _) (by simp only [List.length_cons,List.length_nil];omega) (by have:=O4.out.size;simp;omega) ?_)
  intro g9 c9 w9 hI hG
  have BG:=Below.grown ((Below.refl w.heap.size W4).alloc O4.out.size (.cells #[.int .i64 1,.string t,.int .i64 0,.int .i64 12,.string ⟨#[]⟩,.int .i64 0] 129)) hG (by have:=O4.out.size;simp;omega) (fun k e=>by have:=I4.out.lt;simp at e;omega)
  have I9:=hide hI
  have R9:=hide (R4.out.low BG hRb)
  have O9:=hide (O4.out.then BG)
  clear hI hG BG
  go_wp2
  go_ret
  refine ⟨_,g9,c9,rfl,I9.out,by simp,by simp only [List.length_cons,List.length_nil];omega,?_,q4,by omega,R9.out,O9.out⟩
  intro i hi
  simp only [List.mem_cons,List.not_mem_nil,or_false] at hi
  rcases hi with rfl | rfl
  ·show t.data.toList.length≤5000;rw [Array.length_toList];show t.size≤5000;omega
  ·exact Nat.zero_le _
 ·go_wp2_with fail
  refine (l1Name_any R _ _ R1.out (by omega)).mono ?_
  rintro e W2 ⟨t,rfl,ht,hR,hO⟩
  obtain ⟨q2,hq2⟩:∃ q2,q2=q1+1:=⟨_,rfl⟩
  rw [← hq2] at hR
  have I2:=hide (I1.out.only hO hRb)
  have R2:=hide hR
  have O2:=hide (O1.out.trans hO)
  clear hO hR
  go_wp2_with fail
  refine (l1Lit_any t _).mono ?_
  rintro e W3 ⟨rfl,hB⟩
  obtain ⟨q3,hq3⟩:∃ q3,q3=q2:=⟨_,rfl⟩
  rw [← hq3] at R2
  have I3:=hide (I2.out.below hB lr)
  have R3:=hide (R2.out.below hB lr)
  have O3:=hide (O2.out.trans (Only.of_below hB))
  clear hB
  go_wp2_with fail
  refine (l1Op_any 12 _).mono ?_
  rintro e W4 ⟨rfl,hB⟩
  obtain ⟨q4,hq4⟩:∃ q4,q4=q3:=⟨_,rfl⟩
  rw [← hq4] at R3
  have I4:=hide (I3.out.below hB lr)
  have R4:=hide (R3.out.below hB lr)
  have O4:=hide (O3.out.trans (Only.of_below hB))
  clear hB
  go_wp2_with fail
  refine (pick_any R _ 3 _ R4.out (by omega) (by omega) (by omega)).mono ?_
  rintro e W5 ⟨y,rfl,y0,y1,hR,hO⟩
  obtain ⟨q5,hq5⟩:∃ q5,q5=q4+1:=⟨_,rfl⟩
  rw [← hq5] at hR
  have I5:=hide (I4.out.only hO hRb)
  have R5:=hide hR
  have O5:=hide (O4.out.trans hO)
  clear hO hR
  go_wp2_with fail
  refine (l1OpN_any 5 y _).mono ?_
  rintro e W6 ⟨rfl,hB⟩
  obtain ⟨q6,hq6⟩:∃ q6,q6=q5:=⟨_,rfl⟩
  rw [← hq6] at R5
  have I6:=hide (I5.out.below hB lr)
  have R6:=hide (R5.out.below hB lr)
  have O6:=hide (O5.out.trans (Only.of_below hB))
  clear hB
  go_wp2_with fail
  refine (l1Op_any 12 _).mono ?_
  rintro e W7 ⟨rfl,hB⟩
  obtain ⟨q7,hq7⟩:∃ q7,q7=q6:=⟨_,rfl⟩
  rw [← hq7] at R6
  have I7:=hide (I6.out.below hB lr)
  have R7:=hide (R6.out.below hB lr)
  have O7:=hide (O6.out.trans (Only.of_below hB))
  clear hB
  have X7:=hide (I7.out.below ((Below.refl W7.heap.size W7).alloc lr (.cells #[.int .i64 1,.string t,.int .i64 0,.int .i64 12,.string ⟨#[]⟩,.int .i64 0,.int .i64 5,.string ⟨#[]⟩,.int .i64 y,.int .i64 12,.string ⟨#[]⟩,.int .i64 0] 129)) lr)
  go_wp2_with (at_builtin;refine wp_appI rfl (.tmp 45) (.tmp 54) rfl w.heap.size w.heap.size 0 [] (by simp [Act.eval]) X7.out ⟨W7.heap.size,0,none⟩ 4 4 [(1,t.data.toList,0),(12,[],0),(5,[],y),(12,[],0)] (by simp [Act.eval]) rfl (by simp) (new_cells W7 #[.int .i64 1,.string t,.int .i64 0,.int .i64 12,.string ⟨#[]⟩,.int .i64 0,.int .i64 5,.string ⟨#[]⟩,.int .i64 y,.int .i64 12,.string ⟨#[]⟩,.int .i64 0] _) (by simp only [List.length_cons,List.length_nil];omega) (by have:=O7.out.size;simp;omega) ?_)
  intro g9 c9 w9 hI hG
  have BG:=Below.grown ((Below.refl w.heap.size W7).alloc O7.out.size (.cells #[.int .i64 1,.string t,.int .i64 0,.int .i64 12,.string ⟨#[]⟩,.int .i64 0,.int .i64 5,.string ⟨#[]⟩,.int .i64 y,.int .i64 12,.string ⟨#[]⟩,.int .i64 0] 129)) hG (by have:=O7.out.size;simp;omega) (fun k e=>by have:=I7.out.lt;simp at e;omega)
  have I9:=hide hI
  have R9:=hide (R7.out.low BG hRb)
  have O9:=hide (O7.out.then BG)
  clear hI hG BG
  go_wp2
  go_ret
  refine ⟨_,g9,c9,rfl,I9.out,by simp,by simp only [List.length_cons,List.length_nil];omega,?_,q7,by omega,R9.out,O9.out⟩
  intro i hi
  simp only [List.mem_cons,List.not_mem_nil,or_false] at hi
  rcases hi with rfl | rfl | rfl | rfl
  ·show t.data.toList.length≤5000;rw [Array.length_toList];show t.size≤5000;omega
  ·exact Nat.zero_le _
  ·exact Nat.zero_le _
  ·exact Nat.zero_le _
 ·go_wp2_with fail
  refine (l1Name_any R _ _ R1.out (by omega)).mono ?_
  rintro e W2 ⟨t,rfl,ht,hR,hO⟩
  obtain ⟨q2,hq2⟩:∃ q2,q2=q1+1:=⟨_,rfl⟩
  rw [← hq2] at hR
  have I2:=hide (I1.out.only hO hRb)
  have R2:=hide hR
  have O2:=hide (O1.out.trans hO)
  clear hO hR
  go_wp2_with fail
  refine (l1Lit_any t _).mono ?_
  rintro e W3 ⟨rfl,hB⟩
  obtain ⟨q3,hq3⟩:∃ q3,q3=q2:=⟨_,rfl⟩
  rw [← hq3] at R2
  have I3:=hide (I2.out.below hB lr)
  have R3:=hide (R2.out.below hB lr)
  have O3:=hide (O2.out.trans (Only.of_below hB))
  clear hB
  go_wp2_with fail
  refine (l1Op_any 13 _).mono ?_
  rintro e W4 ⟨rfl,hB⟩
  obtain ⟨q4,hq4⟩:∃ q4,q4=q3:=⟨_,rfl⟩
  rw [← hq4] at R3
  have I4:=hide (I3.out.below hB lr)
  have R4:=hide (R3.out.below hB lr)
  have O4:=hide (O3.out.trans (Only.of_below hB))
  clear hB
  have X4:=hide (I4.out.below ((Below.refl W4.heap.size W4).alloc lr (.cells #[.int .i64 1,.string t,.int .i64 0,.int .i64 13,.string ⟨#[]⟩,.int .i64 0] 129)) lr)
  go_wp2_with (at_builtin;refine wp_appI rfl (.tmp 58) (.tmp 63) rfl w.heap.size w.heap.size 0 [] (by simp [Act.eval]) X4.out ⟨W4.heap.size,0,none⟩ 2 2 [(1,t.data.toList,0),(13,[],0)] (by simp [Act.eval]) rfl (by simp) (new_cells W4 #[.int .i64 1,.string t,.int .i64 0,.int .i64 13,.string ⟨#[]⟩,.int .i64 0] _) (by simp only [List.length_cons,List.length_nil];omega) (by have:=O4.out.size;simp;omega) ?_)
  intro g9 c9 w9 hI hG
  have BG:=Below.grown ((Below.refl w.heap.size W4).alloc O4.out.size (.cells #[.int .i64 1,.string t,.int .i64 0,.int .i64 13,.string ⟨#[]⟩,.int .i64 0] 129)) hG (by have:=O4.out.size;simp;omega) (fun k e=>by have:=I4.out.lt;simp at e;omega)
  have I9:=hide hI
  have R9:=hide (R4.out.low BG hRb)
  have O9:=hide (O4.out.then BG)
  clear hI hG BG
  go_wp2
  go_ret
  refine ⟨_,g9,c9,rfl,I9.out,by simp,by simp only [List.length_cons,List.length_nil];omega,?_,q4,by omega,R9.out,O9.out⟩
  intro i hi
  simp only [List.mem_cons,List.not_mem_nil,or_false] at hi
  rcases hi with rfl | rfl
  ·show t.data.toList.length≤5000;rw [Array.length_toList];show t.size≤5000;omega
  ·exact Nat.zero_le _
 ·go_wp2_with fail
  refine (l1Text_any R _ _ R1.out (by omega)).mono ?_
  rintro e W2 ⟨t,rfl,ht,q2,hq2,hR,hO⟩
  have I2:=hide (I1.out.only hO hRb)
  have R2:=hide hR
  have O2:=hide (O1.out.trans hO)
  clear hO hR
  go_wp2_with fail
  refine (l1Lit_any t _).mono ?_
  rintro e W3 ⟨rfl,hB⟩
  obtain ⟨q3,hq3⟩:∃ q3,q3=q2:=⟨_,rfl⟩
  rw [← hq3] at R2
  have I3:=hide (I2.out.below hB lr)
  have R3:=hide (R2.out.below hB lr)
  have O3:=hide (O2.out.trans (Only.of_below hB))
  clear hB
  have X3:=hide (I3.out.below ((Below.refl W3.heap.size W3).alloc lr (.cells #[.int .i64 1,.string t,.int .i64 0] 129)) lr)
  go_wp2_with (at_builtin;refine wp_appI rfl (.tmp 26) (.tmp 30) rfl w.heap.size w.heap.size 0 [] (by simp [Act.eval]) X3.out ⟨W3.heap.size,0,none⟩ 1 1 [(1,t.data.toList,0)] (by simp [Act.eval]) rfl (by simp) (new_cells W3 #[.int .i64 1,.string t,.int .i64 0] _) (by simp only [List.length_cons,List.length_nil];omega) (by have:=O3.out.size;simp;omega) ?_)
  intro g9 c9 w9 hI hG
  have BG:=Below.grown ((Below.refl w.heap.size W3).alloc O3.out.size (.cells #[.int .i64 1,.string t,.int .i64 0] 129)) hG (by have:=O3.out.size;simp;omega) (fun k e=>by have:=I3.out.lt;simp at e;omega)
  have I9:=hide hI
  have R9:=hide (R3.out.low BG hRb)
  have O9:=hide (O3.out.then BG)
  clear hI hG BG
  go_wp2
  go_ret
  refine ⟨_,g9,c9,rfl,I9.out,by simp,by simp only [List.length_cons,List.length_nil];omega,?_,q3,by omega,R9.out,O9.out⟩
  intro i hi
  simp only [List.mem_cons,List.not_mem_nil,or_false] at hi
  subst hi
  show t.data.toList.length≤5000
  rw [Array.length_toList]
  show t.size≤5000
  omega
 ·go_wp2_with fail
  refine (l1Name_any R _ _ R1.out (by omega)).mono ?_
  rintro e W2 ⟨t,rfl,ht,hR,hO⟩
  obtain ⟨q2,hq2⟩:∃ q2,q2=q1+1:=⟨_,rfl⟩
  rw [← hq2] at hR
  have I2:=hide (I1.out.only hO hRb)
  have R2:=hide hR
  have O2:=hide (O1.out.trans hO)
  clear hO hR
  go_wp2_with fail
  refine (l1Lit_any t _).mono ?_
  rintro e W3 ⟨rfl,hB⟩
  obtain ⟨q3,hq3⟩:∃ q3,q3=q2:=⟨_,rfl⟩
  rw [← hq3] at R2
  have I3:=hide (I2.out.below hB lr)
  have R3:=hide (R2.out.below hB lr)
  have O3:=hide (O2.out.trans (Only.of_below hB))
  clear hB
  go_wp2_with fail
  refine (l1Op_any 12 _).mono ?_
  rintro e W4 ⟨rfl,hB⟩
  obtain ⟨q4,hq4⟩:∃ q4,q4=q3:=⟨_,rfl⟩
  rw [← hq4] at R3
  have I4:=hide (I3.out.below hB lr)
  have R4:=hide (R3.out.below hB lr)
  have O4:=hide (O3.out.trans (Only.of_below hB))
  clear hB
  have X4:=hide (I4.out.below ((Below.refl W4.heap.size W4).alloc lr (.cells #[.int .i64 1,.string t,.int .i64 0,.int .i64 12,.string ⟨#[]⟩,.int .i64 0] 129)) lr)
  go_wp2_with (at_builtin;refine wp_appI rfl (.tmp 36) (.tmp 41) rfl w.heap.size w.heap.size 0 [] (by simp [Act.eval]) X4.out ⟨W4.heap.size,0,none⟩ 2 2 [(1,t.data.toList,0),(12,[],0)] (by simp [Act.eval]) rfl (by simp) (new_cells W4 #[.int .i64 1,.string t,.int .i64 0,.int .i64 12,.string ⟨#[]⟩,.int .i64 0] _) (by simp only [List.length_cons,List.length_nil];omega) (by have:=O4.out.size;simp;omega) ?_)
  intro g9 c9 w9 hI hG
  have BG:=Below.grown ((Below.refl w.heap.size W4).alloc O4.out.size (.cells #[.int .i64 1,.string t,.int .i64 0,.int .i64 12,.string ⟨#[]⟩,.int .i64 0] 129)) hG (by have:=O4.out.size;simp;omega) (fun k e=>by have:=I4.out.lt;simp at e;omega)
  have I9:=hide hI
  have R9:=hide (R4.out.low BG hRb)
  have O9:=hide (O4.out.then BG)
  clear hI hG BG
  go_wp2
  go_ret
  refine ⟨_,g9,c9,rfl,I9.out,by simp,by simp only [List.length_cons,List.length_nil];omega,?_,q4,by omega,R9.out,O9.out⟩
  intro i hi
  simp only [List.mem_cons,List.not_mem_nil,or_false] at hi
  rcases hi with rfl | rfl
  ·show t.data.toList.length≤5000;rw [Array.length_toList];show t.size≤5000;omega
  ·exact Nat.zero_le _
 ·go_wp2_with fail
  refine (l1Name_any R _ _ R1.out (by omega)).mono ?_
  rintro e W2 ⟨t,rfl,ht,hR,hO⟩
  obtain ⟨q2,hq2⟩:∃ q2,q2=q1+1:=⟨_,rfl⟩
  rw [← hq2] at hR
  have I2:=hide (I1.out.only hO hRb)
  have R2:=hide hR
  have O2:=hide (O1.out.trans hO)
  clear hO hR
  go_wp2_with fail
  refine (l1Lit_any t _).mono ?_
  rintro e W3 ⟨rfl,hB⟩
  obtain ⟨q3,hq3⟩:∃ q3,q3=q2:=⟨_,rfl⟩
  rw [← hq3] at R2
  have I3:=hide (I2.out.below hB lr)
  have R3:=hide (R2.out.below hB lr)
  have O3:=hide (O2.out.trans (Only.of_below hB))
  clear hB
  go_wp2_with fail
  refine (l1Op_any 12 _).mono ?_
  rintro e W4 ⟨rfl,hB⟩
  obtain ⟨q4,hq4⟩:∃ q4,q4=q3:=⟨_,rfl⟩
  rw [← hq4] at R3
  have I4:=hide (I3.out.below hB lr)
  have R4:=hide (R3.out.below hB lr)
  have O4:=hide (O3.out.trans (Only.of_below hB))
  clear hB
  have X4:=hide (I4.out.below ((Below.refl W4.heap.size W4).alloc lr (.cells #[.int .i64 1,.string t,.int .i64 0,.int .i64 12,.string ⟨#[]⟩,.int .i64 0] 129)) lr)
  go_wp2_with (at_builtin;refine wp_appI rfl (.tmp 36) (.tmp 41) rfl w.heap.size w.heap.size 0 [] (by simp [Act.eval]) X4.out ⟨W4.heap.size,0,none⟩ 2 2 [(1,t.data.toList,0),(12,[],0)] (by simp [Act.eval]) rfl (by simp) (new_cells W4 #[.int .i64 1,.string t,.int .i64 0,.int .i64 12,.string ⟨#[]⟩,.int .i64 0] _) (by simp only [List.length_cons,List.length_nil];omega) (by have:=O4.out.size;simp;omega) ?_)
  intro g9 c9 w9 hI hG
  have BG:=Below.grown ((Below.refl w.heap.size W4).alloc O4.out.size (.cells #[.int .i64 1,.string t,.int .i64 0,.int .i64 12,.string ⟨#[]⟩,.int .i64 0] 129)) hG (by have:=O4.out.size;simp;omega) (fun k e=>by have:=I4.out.lt;simp at e;omega)
  have I9:=hide hI
  have R9:=hide (R4.out.low BG hRb)
  have O9:=hide (O4.out.then BG)
  clear hI hG BG
  go_wp2
  go_ret
  refine ⟨_,g9,c9,rfl,I9.out,by simp,by simp only [List.length_cons,List.length_nil];omega,?_,q4,by omega,R9.out,O9.out⟩
  intro i hi
  simp only [List.mem_cons,List.not_mem_nil,or_false] at hi
  rcases hi with rfl | rfl
  ·show t.data.toList.length≤5000;rw [Array.length_toList];show t.size≤5000;omega
  ·exact Nat.zero_le _
 ·go_wp2_with fail
  refine (l1Name_any R _ _ R1.out (by omega)).mono ?_
  rintro e W2 ⟨t,rfl,ht,hR,hO⟩
  obtain ⟨q2,hq2⟩:∃ q2,q2=q1+1:=⟨_,rfl⟩
  rw [← hq2] at hR
  have I2:=hide (I1.out.only hO hRb)
  have R2:=hide hR
  have O2:=hide (O1.out.trans hO)
  clear hO hR
  go_wp2_with fail
  refine (l1Lit_any t _).mono ?_
  rintro e W3 ⟨rfl,hB⟩
  obtain ⟨q3,hq3⟩:∃ q3,q3=q2:=⟨_,rfl⟩
  rw [← hq3] at R2
  have I3:=hide (I2.out.below hB lr)
  have R3:=hide (R2.out.below hB lr)
  have O3:=hide (O2.out.trans (Only.of_below hB))
  clear hB
  go_wp2_with fail
  refine (l1Op_any 12 _).mono ?_
  rintro e W4 ⟨rfl,hB⟩
  obtain ⟨q4,hq4⟩:∃ q4,q4=q3:=⟨_,rfl⟩
  rw [← hq4] at R3
  have I4:=hide (I3.out.below hB lr)
  have R4:=hide (R3.out.below hB lr)
  have O4:=hide (O3.out.trans (Only.of_below hB))
  clear hB
  have X4:=hide (I4.out.below ((Below.refl W4.heap.size W4).alloc lr (.cells #[.int .i64 1,.string t,.int .i64 0,.int .i64 12,.string ⟨#[]⟩,.int .i64 0] 129)) lr)
  go_wp2_with (at_builtin;refine wp_appI rfl (.tmp 36) (.tmp 41) rfl w.heap.size w.heap.size 0 [] (by simp [Act.eval]) X4.out ⟨W4.heap.size,0,none⟩ 2 2 [(1,t.data.toList,0),(12,[],0)] (by simp [Act.eval]) rfl (by simp) (new_cells W4 #[.int .i64 1,.string t,.int .i64 0,.int .i64 12,.string ⟨#[]⟩,.int .i64 0] _) (by simp only [List.length_cons,List.length_nil];omega) (by have:=O4.out.size;simp;omega) ?_)
  intro g9 c9 w9 hI hG
  have BG:=Below.grown ((Below.refl w.heap.size W4).alloc O4.out.size (.cells #[.int .i64 1,.string t,.int .i64 0,.int .i64 12,.string ⟨#[]⟩,.int .i64 0] 129)) hG (by have:=O4.out.size;simp;omega) (fun k e=>by have:=I4.out.lt;simp at e;omega)
  have I9:=hide hI
  have R9:=hide (R4.out.low BG hRb)
  have O9:=hide (O4.out.then BG)
  clear hI hG BG
  go_wp2
  go_ret
  refine ⟨_,g9,c9,rfl,I9.out,by simp,by simp only [List.length_cons,List.length_nil];omega,?_,q4,by omega,R9.out,O9.out⟩
  intro i hi
  simp only [List.mem_cons,List.not_mem_nil,or_false] at hi
  rcases hi with rfl | rfl
  ·show t.data.toList.length≤5000;rw [Array.length_toList];show t.size≤5000;omega
  ·exact Nat.zero_le _
 ·go_wp2_with fail
  refine (l1Name_any R _ _ R1.out (by omega)).mono ?_
  rintro e W2 ⟨t,rfl,ht,hR,hO⟩
  obtain ⟨q2,hq2⟩:∃ q2,q2=q1+1:=⟨_,rfl⟩
  rw [← hq2] at hR
  have I2:=hide (I1.out.only hO hRb)
  have R2:=hide hR
  have O2:=hide (O1.out.trans hO)
  clear hO hR
  go_wp2_with fail
  refine (l1Lit_any t _).mono ?_
  rintro e W3 ⟨rfl,hB⟩
  obtain ⟨q3,hq3⟩:∃ q3,q3=q2:=⟨_,rfl⟩
  rw [← hq3] at R2
  have I3:=hide (I2.out.below hB lr)
  have R3:=hide (R2.out.below hB lr)
  have O3:=hide (O2.out.trans (Only.of_below hB))
  clear hB
  go_wp2_with fail
  refine (l1Op_any 12 _).mono ?_
  rintro e W4 ⟨rfl,hB⟩
  obtain ⟨q4,hq4⟩:∃ q4,q4=q3:=⟨_,rfl⟩
  rw [← hq4] at R3
  have I4:=hide (I3.out.below hB lr)
  have R4:=hide (R3.out.below hB lr)
  have O4:=hide (O3.out.trans (Only.of_below hB))
  clear hB
  go_wp2_with fail
  refine (pick_any R _ 3 _ R4.out (by omega) (by omega) (by omega)).mono ?_
  rintro e W5 ⟨y,rfl,y0,y1,hR,hO⟩
  obtain ⟨q5,hq5⟩:∃ q5,q5=q4+1:=⟨_,rfl⟩
  rw [← hq5] at hR
  have I5:=hide (I4.out.only hO hRb)
  have R5:=hide hR
  have O5:=hide (O4.out.trans hO)
  clear hO hR
  go_wp2_with fail
  refine (l1OpN_any 5 y _).mono ?_
  rintro e W6 ⟨rfl,hB⟩
  obtain ⟨q6,hq6⟩:∃ q6,q6=q5:=⟨_,rfl⟩
  rw [← hq6] at R5
  have I6:=hide (I5.out.below hB lr)
  have R6:=hide (R5.out.below hB lr)
  have O6:=hide (O5.out.trans (Only.of_below hB))
  clear hB
  go_wp2_with fail
  refine (l1Op_any 12 _).mono ?_
  rintro e W7 ⟨rfl,hB⟩
  obtain ⟨q7,hq7⟩:∃ q7,q7=q6:=⟨_,rfl⟩
  rw [← hq7] at R6
  have I7:=hide (I6.out.below hB lr)
  have R7:=hide (R6.out.below hB lr)
  have O7:=hide (O6.out.trans (Only.of_below hB))
  clear hB
  have X7:=hide (I7.out.below ((Below.refl W7.heap.size W7).alloc lr (.cells #[.int .i64 1,.string t,.int .i64 0,.int .i64 12,.string ⟨#[]⟩,.int .i64 0,.int .i64 5,.string ⟨#[]⟩,.int .i64 y,.int .i64 12,.string ⟨#[]⟩,.int .i64 0] 129)) lr)
  go_wp2_with (at_builtin;refine wp_appI rfl (.tmp 45) (.tmp 54) rfl w.heap.size w.heap.size 0 [] (by simp [Act.eval]) X7.out ⟨W7.heap.size,0,none⟩ 4 4 [(1,t.data.toList,0),(12,[],0),(5,[],y),(12,[],0)] (by simp [Act.eval]) rfl (by simp) (new_cells W7 #[.int .i64 1,.string t,.int .i64 0,.int .i64 12,.string ⟨#[]⟩,.int .i64 0,.int .i64 5,.string ⟨#[]⟩,.int .i64 y,.int .i64 12,.string ⟨#[]⟩,.int .i64 0] _) (by simp only [List.length_cons,List.length_nil];omega) (by have:=O7.out.size;simp;omega) ?_)
  intro g9 c9 w9 hI hG
  have BG:=Below.grown ((Below.refl w.heap.size W7).alloc O7.out.size (.cells #[.int .i64 1,.string t,.int .i64 0,.int .i64 12,.string ⟨#[]⟩,.int .i64 0,.int .i64 5,.string ⟨#[]⟩,.int .i64 y,.int .i64 12,.string ⟨#[]⟩,.int .i64 0] 129)) hG (by have:=O7.out.size;simp;omega) (fun k e=>by have:=I7.out.lt;simp at e;omega)
  have I9:=hide hI
  have R9:=hide (R7.out.low BG hRb)
  have O9:=hide (O7.out.then BG)
  clear hI hG BG
  go_wp2
  go_ret
  refine ⟨_,g9,c9,rfl,I9.out,by simp,by simp only [List.length_cons,List.length_nil];omega,?_,q7,by omega,R9.out,O9.out⟩
  intro i hi
  simp only [List.mem_cons,List.not_mem_nil,or_false] at hi
  rcases hi with rfl | rfl | rfl | rfl
  ·show t.data.toList.length≤5000;rw [Array.length_toList];show t.size≤5000;omega
  ·exact Nat.zero_le _
  ·exact Nat.zero_le _
  ·exact Nat.zero_le _
theorem i3L_setN:∀ (L:List I3) (i:Nat) (n:Int) (x:I3),L[i]?=some x→i3L (L.set i (x.1,x.2.1,n))=(i3L L).set (i*3+2) (.int .i64 n)
 | [],i,n,x,h=>by simp at h
 | y :: L,0,n,x,h=>by
  simp at h
  subst h
  rfl
 | y :: L,i+1,n,x,h=>by
  simp at h
  have ih:=i3L_setN L i n x h
  have hl:(i3V y).length=3:=rfl
  rw [List.set_cons_succ]
  show i3V y++i3L (L.set i (x.1,x.2.1,n))=(i3V y++i3L L).set ((i+1)*3+2) (.int .i64 n)
  rw [ih,List.set_append_right _ _ (by rw [hl];omega),hl,show (i+1)*3+2 - 3=i*3+2 by omega]
theorem IR.setN {w:World}{base g c:Nat}{L:List I3}(h:IR w base g c L){i:Nat}(hi:i<L.length)(n:Int) :
  ∃ L',L'.length=L.length∧((∀ x∈L,x.2.1.length≤5000)→∀ x∈L',x.2.1.length≤5000)∧IR (w.setCell ⟨g,i*3+2,none⟩ (.int .i64 n)) base g c L':=by
 have hx:L[i]?=some L[i]:=List.getElem?_eq_getElem hi
 refine ⟨L.set i (L[i].1,L[i].2.1,n),List.length_set,fun hT x hm=>?_,?_⟩
 ·rcases List.mem_or_eq_of_mem_set hm with h1 | h1
  ·exact hT x h1
  ·rw [h1]
   exact hT L[i] (List.getElem_mem hi)
 ·unfold IR
  rw [List.length_set,i3L_setN L i n L[i] hx]
  refine ⟨by rw [List.length_set];exact h.1,?_⟩
  rcases h.2 with ⟨hv,h0⟩ | ⟨g',cap,cur,hv,hb,hg,h1,h2,h3,h4⟩
  ·simp at hv
  ·simp only [Value.slice.injEq,Option.some.injEq,Addr.mk.injEq] at hv
   obtain ⟨⟨rfl,-⟩,-,rfl⟩:=hv
   refine .inr ⟨g,c,cur.setIfInBounds (i*3+2) (.int .i64 n),rfl,hb,?_,h1,h2,by simpa using h3,?_⟩
   ·simp [World.setCell,Array.getElem?_modify,hg]
   ·rw [Array.toList_setIfInBounds,List.take_set,h4]
theorem IR.cellN {w:World}{base g c:Nat}{L:List I3}(h:IR w base g c L){i:Nat}(hi:i<L.length):(∃ v,w.cell? ⟨g,i*3+2,none⟩=some (.int .i64 v))∧w.frozen? ⟨g,i*3+2,none⟩=false:=by
 have hx:L[i]?=some L[i]:=List.getElem?_eq_getElem hi
 have key:∀ (L:List I3) (i:Nat) (x:I3),L[i]?=some x→(i3L L)[i*3+2]?=some (.int .i64 x.2.2):=by
  intro L
  induction L with
  | nil=>intro i x h;simp at h
  | cons y L ih =>
   intro i x h
   cases i with
   | zero=>simp at h;subst h;rfl
   | succ i =>
    simp at h
    have hl:(i3V y).length=3:=rfl
    show (i3V y++i3L L)[(i+1)*3+2]?=_
    rw [List.getElem?_append_right (by rw [hl];omega),hl,show (i+1)*3+2 - 3=i*3+2 by omega]
    exact ih i x h
 have hc:=World.ownsRow.cells h (g:=g) rfl _ _ (key L i L[i] hx)
 rw [addr_addF,Nat.zero_add] at hc
 refine ⟨⟨_,hc⟩,?_⟩
 rcases h.2 with ⟨hv,_⟩ | ⟨g',cap,cur,hv,_,hg,_⟩
 ·simp at hv
 ·simp only [Value.slice.injEq,Option.some.injEq,Addr.mk.injEq] at hv
  obtain ⟨⟨rfl,-⟩,-,rfl⟩:=hv
  exact Lib.frozen_of_heap hg _
end Go.Proofs.YtpacbfkbhhnblaaGreatDoor.Vp
