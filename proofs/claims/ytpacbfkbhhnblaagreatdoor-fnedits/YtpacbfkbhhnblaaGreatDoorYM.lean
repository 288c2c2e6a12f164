import Derived.Test.YtpacbfkbhhnblaaGreatDoorYI
import Derived.Test.YtpacbfkbhhnblaaGreatDoorZA
import Derived.Test.YtpacbfkbhhnblaaGreatDoorZB
import Derived.Test.YtpacbfkbhhnblaaGreatDoorZO
import Derived.Test.YtpacbfkbhhnblaaGreatDoorYJ
import Derived.Test.YtpacbfkbhhnblaaGreatDoorZI
import Derived.Test.YtpacbfkbhhnblaaGreatDoorZT
set_option maxRecDepth 100000
set_option maxHeartbeats 8000000
namespace Go.Proofs.YtpacbfkbhhnblaaGreatDoor.Vp
open Go.RowKit Go.Proofs.YtpacbfkbhhnblaaGreatDoor.Ca
def DSp (w:World)(R q ns nt:Nat)(e:Ending)(w':World):Prop:=∃ (LS:List Source) (RT:List TR) (v0 v1:Value),e=.returned (.agg #[v0,v1])∧w'.ownsRow (w.heap.size+2) 76 2 v0 LS.length (LS.flatMap srcV)∧TRow w' (w.heap.size+2) v1 RT∧SpG LS RT∧LS.length≤ns∧RT.length≤nt∧∃ q':Nat,q'≤q∧Rd w' R q'∧Only R w w'
def srcN (k:Nat):ByteArray:=(⟨#[97,98,99,100,101,102]⟩:ByteArray).extract k (k+1)
theorem srcN_size:∀ k,k<6→(srcN k).size=1:=by decide
theorem l2Draw_any (R p:Nat)(w:World)(hR:Rd w R p)(hp:p≤10000) :
  Calls Tryz.prog 87 #[.pointer (some ⟨R,0,none⟩)] w fun e w'=>DSp w R (p+5100) 6 8 e w':=by
 have HR:=hide hR
 have hlow:=hR.lt
 clear hR
 have C0:=hide (spb_new w)
 have B0:=hide (((Below.refl w.heap.size w).alloc lr (.cells #[.slice none 0 0,.slice none 0 0] 26)).alloc (by simp) (.cells #[.slice none 0 0,.slice none 0 0] 26))
 obtain ⟨i0',hi,hy0,hy1,hy2⟩:=info_parts infoSource
 obtain ⟨i1',hj,hz0,hz1,hz2⟩:=info_parts infoTarget
 go_enter Tryz.func87,Tryz.ntmps87
 go_wp2_with fail
 generalize (w.alloc (.cells #[.slice none 0 0,.slice none 0 0] 26)).alloc (.cells #[.slice none 0 0,.slice none 0 0] 26)=W at C0 B0 ⊢
 have R0:=hide (HR.out.below B0.out lr)
 have O0:Hid (Only R w W):=Only.of_below B0.out
 go_loopw [4] (fun i wr=>∃ (k q:Nat) (v0:Value) (LS:List Source),k≤6∧q≤p+12*k∧LS.length≤k∧i=.int .i64 k∧Hid (SpB w.heap.size wr v0 (.slice none 0 0) LS [])∧Hid (SpG LS [])∧Hid (Rd wr R q)∧Hid (Only R w wr)) (fun i _=>6 - (intOf i).toNat)
 case atStart=>exact ⟨0,p,_,[],by omega,by omega,Nat.le_refl _,rfl,C0.out,spg_nil,R0.out,O0.out⟩
 case round =>
  obtain ⟨k,q,v0,LS,hk,hq,hls,rfl,CC,GG,RR,OO⟩:=hrel
  by_cases hlt:k<6
  ·have hwk:IntKind.i64.wrap ((k:Int)+1)=(k:Int)+1:=by rw [IntKind.wrap_i64];omega
   go_wp2_with fail
   refine (pick_any R q 5 _ RR.out (by omega) (by omega) (by omega)).mono ?_
   rintro e w1 ⟨z,rfl,hz0',hz1',hR1,hO1⟩
   have C1:=hide (CC.out.only hO1 hlow)
   have R1:=hide hR1
   have O1:=hide (OO.out.trans hO1)
   clear hR1 hO1
   by_cases hz:0<z
   ·go_wp2_with fail
    refine (l1Text_any R _ _ R1.out (by omega)).mono ?_
    rintro e w2 ⟨t,rfl,ht,q2,hq2,hR2,hO2⟩
    have C2:=hide (C1.out.only hO2 hlow)
    have R2:=hide hR2
    have O2:=hide (O1.out.trans hO2)
    clear hR2 hO2
    go_wp2_with fail
    refine (pick_any R _ 2 _ R2.out (by omega) (by omega) (by omega)).mono ?_
    rintro e w3 ⟨y,rfl,hy0',hy1',hR3,hO3⟩
    have C3:=hide (C2.out.only hO3 hlow)
    have R3:=hide hR3
    have O3:=hide (O2.out.trans hO3)
    clear hR3 hO3
    by_cases hy:y=0
    ·subst hy
     go_wp2_with fail
     refine (l1Name_any R _ _ R3.out (by omega)).mono ?_
     rintro e w4 ⟨s1,rfl,hs1,hR4,hO4⟩
     have C4:=hide (C3.out.only hO4 hlow)
     have R4:=hide hR4
     have O4:=hide (O3.out.trans hO4)
     clear hR4 hO4
     go_wp2_with fail
     refine (l1Name_any R _ _ R4.out (by omega)).mono ?_
     rintro e w5 ⟨s2,rfl,hs2,hR5,hO5⟩
     have C5:=hide (C4.out.only hO5 hlow)
     have R5:=hide hR5
     have O5:=hide (O4.out.trans hO5)
     clear hR5 hO5
     go_wp2_with fail
     have htx:(s1++⟨#[32]⟩++s2++⟨#[32]⟩++t).size≤5000:=by
      have e:(⟨#[32]⟩:ByteArray).size=1:=rfl
      simp only [ByteArray.size_append,e]
      omega
     generalize s1++⟨#[32]⟩++s2++⟨#[32]⟩++t=tx at htx ⊢
     have SQ:Hid (∀ V:World,(∀ j,j<w5.heap.size→some j≠v0.ownBlock→V.heap[j]?=w5.heap[j]?)→V.heap[w.heap.size+1]?=some (.cells #[v0,.slice none 0 0] 26 (0,0))∧V.cell? ⟨w.heap.size+1,0,none⟩=some v0):=fun V hV=>by
      have h1:=(hV (w.heap.size+1) C5.out.lt fun e=>by have:=(C5.out.src.lt _ e.symm).1;omega).trans C5.out.box
      exact ⟨h1,by simp [World.cell?,h1]⟩
     refine wp_region_N (fun V=>V.heap[w.heap.size+1]?=some (.cells #[v0,.slice none 0 0] 26 (0,0))∧V.cell? ⟨w.heap.size+1,0,none⟩=some v0) 11 (by as_aux_lemma=>kernel_rfl) ?_
     have HS:=hide (SQ.out w5.drew (fun j hj _=>rfl))
     refine anyN_take (i:=0) (v:=?_) rfl (by as_aux_lemma=>kernel_rfl) (by as_aux_lemma=>kernel_rfl) (by as_aux_lemma=>kernel_rfl) (by as_aux_lemma=>kernel_rfl) (fun _ _ _ h=>h) rfl ?_ HS.out ?_
     rotate_left
     ·(intro wz hSw;obtain ⟨s0,s1⟩:=hSw;go_simp)
      (try with_reducible rfl)
     (try simp only [Act.put,List.setIfInBounds_toArray,List.set_cons_zero,List.set_cons_succ])
     refine anyN_take (i:=1) (v:=?_) rfl (by as_aux_lemma=>kernel_rfl) (by as_aux_lemma=>kernel_rfl) (by as_aux_lemma=>kernel_rfl) (by as_aux_lemma=>kernel_rfl) (fun _ _ _ h=>h) rfl ?_ HS.out ?_
     rotate_left
     ·(intro wz hSw;obtain ⟨s0,s1⟩:=hSw;go_simp)
      (try with_reducible rfl)
     (try simp only [Act.put,List.setIfInBounds_toArray,List.set_cons_zero,List.set_cons_succ])
     refine anyN_take (i:=2) (v:=?_) rfl (by as_aux_lemma=>kernel_rfl) (by as_aux_lemma=>kernel_rfl) (by as_aux_lemma=>kernel_rfl) (by as_aux_lemma=>kernel_rfl) (fun _ _ _ h=>h) rfl ?_ HS.out ?_
     rotate_left
     ·(intro wz hSw;obtain ⟨s0,s1⟩:=hSw;go_simp)
      (try with_reducible rfl)
     (try simp only [Act.put,List.setIfInBounds_toArray,List.set_cons_zero,List.set_cons_succ])
     refine anyN_take (i:=3) (v:=?_) rfl (by as_aux_lemma=>kernel_rfl) (by as_aux_lemma=>kernel_rfl) (by as_aux_lemma=>kernel_rfl) (by as_aux_lemma=>kernel_rfl) (fun _ _ _ h=>h) rfl ?_ HS.out ?_
     rotate_left
     ·(intro wz hSw;obtain ⟨s0,s1⟩:=hSw;go_simp)
      (try with_reducible rfl)
     (try simp only [Act.put,List.setIfInBounds_toArray,List.set_cons_zero,List.set_cons_succ])
     refine anyN_take (i:=4) (v:=?_) rfl (by as_aux_lemma=>kernel_rfl) (by as_aux_lemma=>kernel_rfl) (by as_aux_lemma=>kernel_rfl) (by as_aux_lemma=>kernel_rfl) (fun _ _ _ h=>h) rfl ?_ HS.out ?_
     rotate_left
     ·(intro wz hSw;obtain ⟨s0,s1⟩:=hSw;go_simp)
      (try with_reducible rfl)
     (try simp only [Act.put,List.setIfInBounds_toArray,List.set_cons_zero,List.set_cons_succ])
     refine anyN_take (i:=5) (v:=.string (srcN k)) rfl (by as_aux_lemma=>kernel_rfl) (by as_aux_lemma=>kernel_rfl) (by as_aux_lemma=>kernel_rfl) (by as_aux_lemma=>kernel_rfl) (fun _ _ _ h=>h) rfl ?_ HS.out ?_
     ·intro wz _
      go_simp
      rw [if_pos ⟨by omega,by omega⟩,if_pos (by omega)]
      rfl
     (try simp only [Act.put,List.setIfInBounds_toArray,List.set_cons_zero,List.set_cons_succ])
     refine anyN_take (i:=6) (v:=?_) rfl (by as_aux_lemma=>kernel_rfl) (by as_aux_lemma=>kernel_rfl) (by as_aux_lemma=>kernel_rfl) (by as_aux_lemma=>kernel_rfl) (fun _ _ _ h=>h) rfl ?_ HS.out ?_
     rotate_left
     ·(intro wz hSw;obtain ⟨s0,s1⟩:=hSw;go_simp)
      (try with_reducible rfl)
     (try simp only [Act.put,List.setIfInBounds_toArray,List.set_cons_zero,List.set_cons_succ])
     refine anyN_take (i:=7) (v:=?_) rfl (by as_aux_lemma=>kernel_rfl) (by as_aux_lemma=>kernel_rfl) (by as_aux_lemma=>kernel_rfl) (by as_aux_lemma=>kernel_rfl) (fun _ _ _ h=>h) rfl ?_ HS.out ?_
     rotate_left
     ·(intro wz hSw;obtain ⟨s0,s1⟩:=hSw;go_simp)
      (try with_reducible rfl)
     (try simp only [Act.put,List.setIfInBounds_toArray,List.set_cons_zero,List.set_cons_succ])
     refine anyN_one (i:=8) rfl (by as_aux_lemma=>kernel_rfl) (fun K hK=>?_)
     go_simp
     have hbx:=C5.out.lt
     have AB:=hide (((Below.refl w5.heap.size w5).alloc lr (.cells #[.string (srcN k),.string tx] 76)).drew)
     have C6:=hide (C5.out.below AB.out)
     have hz6:=AB.out.size
     refine hK.out _ _ (fun _=>SQ.out _ (fun j hj _=>AB.out.block j hj)) ?_
     clear hK K HS
     (try simp only [Act.put,List.setIfInBounds_toArray,List.set_cons_zero,List.set_cons_succ])
     refine anyN_one (i:=9) rfl (by as_aux_lemma=>kernel_rfl) (fun K hK=>?_)
     refine step_append_own_at rfl (.tmp 33) (.tmp 40) 23 rfl (w.heap.size+2) 76 i0' (.agg #[.string ⟨#[]⟩,.string ⟨#[]⟩]) 2 32 Tryz.underlying23 hi hy0 hy1 hy2 rfl (by decide) v0 LS.length (LS.flatMap srcV) (by simp [Act.eval]) C6.out.src ⟨w5.heap.size,0,none⟩ 1 1 (srcV ⟨srcN k,tx⟩) (by simp [Act.eval]) rfl (fun j u hu=>two_new w5 _ _ _ j u hu) (by simp [srcV,Value.oneCell']) (by unfold maxLen;omega) (by omega) (by omega) ?_
     intro v' w7 hown hgrow _
     obtain ⟨a7,c7,rfl⟩:=own_slice hown
     have S7:=hide (SQ.out w7 (fun j hj hne=>(hgrow.block j (Nat.lt_of_lt_of_le hj AB.out.size) hne).trans (AB.out.block j hj)))
     obtain ⟨c8,b8⟩:=C6.out.addS hown hgrow
     have C8:=hide c8
     have B8:=hide b8
     clear hown hgrow c8 b8
     refine hK.out _ _ (fun _=>S7.out) ?_
     clear hK K
     (try simp only [Act.put,List.setIfInBounds_toArray,List.set_cons_zero,List.set_cons_succ])
     refine anyN_one (i:=10) rfl (by as_aux_lemma=>kernel_rfl) (fun K hK=>?_)
     go_simp
     refine hK.out _ _ (fun _=>S7.out) ?_
     clear hK K
     (try simp only [Act.put,List.setIfInBounds_toArray,List.set_cons_zero,List.set_cons_succ])
     obtain ⟨s7,t7⟩:=S7.out
     have f7:w7.frozen? ⟨w.heap.size+1,0,none⟩=false:=by simp [World.frozen?,s7]
     have l7:=heap_in s7
     clear s7
     refine anyN_one (i:=11) rfl (by as_aux_lemma=>kernel_rfl) (fun K hK=>?_)
     go_simp
     refine hK.out _ _ (fun h=>absurd rfl h) ?_
     clear hK K
     (try simp only [Act.put,List.setIfInBounds_toArray,List.set_cons_zero,List.set_cons_succ])
     refine anyN_done (by as_aux_lemma=>kernel_rfl) ?_ _
     go_wp2
     have BB:=hide ((AB.out.mono (show w.heap.size+1≤w5.heap.size by omega)).trans B8.out)
     refine ⟨⟨k+1,_,.slice a7 (LS.length+1) c7,LS++[(⟨srcN k,tx⟩:Source)],by omega,by omega,by rw [List.length_append];exact Nat.succ_le_succ hls,by go_num,C8.out,GG.out.addS (x:=⟨srcN k,tx⟩) (by show (srcN k).size≤5000;rw [srcN_size k hlt];omega) htx,R5.out.low BB.out (by omega),O5.out.then (BB.out.mono (Nat.le_succ _))⟩,by simp [intOf];omega⟩
    ·go_wp2_with fail
     have SQ:Hid (∀ V:World,(∀ j,j<w3.heap.size→some j≠v0.ownBlock→V.heap[j]?=w3.heap[j]?)→V.heap[w.heap.size+1]?=some (.cells #[v0,.slice none 0 0] 26 (0,0))∧V.cell? ⟨w.heap.size+1,0,none⟩=some v0):=fun V hV=>by
      have h1:=(hV (w.heap.size+1) C3.out.lt fun e=>by have:=(C3.out.src.lt _ e.symm).1;omega).trans C3.out.box
      exact ⟨h1,by simp [World.cell?,h1]⟩
     refine wp_region_N (fun V=>V.heap[w.heap.size+1]?=some (.cells #[v0,.slice none 0 0] 26 (0,0))∧V.cell? ⟨w.heap.size+1,0,none⟩=some v0) 11 (by as_aux_lemma=>kernel_rfl) ?_
     have HS:=hide (SQ.out w3.drew (fun j hj _=>rfl))
     refine anyN_take (i:=0) (v:=?_) rfl (by as_aux_lemma=>kernel_rfl) (by as_aux_lemma=>kernel_rfl) (by as_aux_lemma=>kernel_rfl) (by as_aux_lemma=>kernel_rfl) (fun _ _ _ h=>h) rfl ?_ HS.out ?_
     rotate_left
     ·(intro wz hSw;obtain ⟨s0,s1⟩:=hSw;go_simp)
      (try with_reducible rfl)
     (try simp only [Act.put,List.setIfInBounds_toArray,List.set_cons_zero,List.set_cons_succ])
     refine anyN_take (i:=1) (v:=?_) rfl (by as_aux_lemma=>kernel_rfl) (by as_aux_lemma=>kernel_rfl) (by as_aux_lemma=>kernel_rfl) (by as_aux_lemma=>kernel_rfl) (fun _ _ _ h=>h) rfl ?_ HS.out ?_
     rotate_left
     ·(intro wz hSw;obtain ⟨s0,s1⟩:=hSw;go_simp)
      (try with_reducible rfl)
     (try simp only [Act.put,List.setIfInBounds_toArray,List.set_cons_zero,List.set_cons_succ])
     refine anyN_take (i:=2) (v:=?_) rfl (by as_aux_lemma=>kernel_rfl) (by as_aux_lemma=>kernel_rfl) (by as_aux_lemma=>kernel_rfl) (by as_aux_lemma=>kernel_rfl) (fun _ _ _ h=>h) rfl ?_ HS.out ?_
     rotate_left
     ·(intro wz hSw;obtain ⟨s0,s1⟩:=hSw;go_simp)
      (try with_reducible rfl)
     (try simp only [Act.put,List.setIfInBounds_toArray,List.set_cons_zero,List.set_cons_succ])
     refine anyN_take (i:=3) (v:=?_) rfl (by as_aux_lemma=>kernel_rfl) (by as_aux_lemma=>kernel_rfl) (by as_aux_lemma=>kernel_rfl) (by as_aux_lemma=>kernel_rfl) (fun _ _ _ h=>h) rfl ?_ HS.out ?_
     rotate_left
     ·(intro wz hSw;obtain ⟨s0,s1⟩:=hSw;go_simp)
      (try with_reducible rfl)
     (try simp only [Act.put,List.setIfInBounds_toArray,List.set_cons_zero,List.set_cons_succ])
     refine anyN_take (i:=4) (v:=?_) rfl (by as_aux_lemma=>kernel_rfl) (by as_aux_lemma=>kernel_rfl) (by as_aux_lemma=>kernel_rfl) (by as_aux_lemma=>kernel_rfl) (fun _ _ _ h=>h) rfl ?_ HS.out ?_
     rotate_left
     ·(intro wz hSw;obtain ⟨s0,s1⟩:=hSw;go_simp)
      (try with_reducible rfl)
     (try simp only [Act.put,List.setIfInBounds_toArray,List.set_cons_zero,List.set_cons_succ])
     refine anyN_take (i:=5) (v:=.string (srcN k)) rfl (by as_aux_lemma=>kernel_rfl) (by as_aux_lemma=>kernel_rfl) (by as_aux_lemma=>kernel_rfl) (by as_aux_lemma=>kernel_rfl) (fun _ _ _ h=>h) rfl ?_ HS.out ?_
     ·intro wz _
      go_simp
      rw [if_pos ⟨by omega,by omega⟩,if_pos (by omega)]
      rfl
     (try simp only [Act.put,List.setIfInBounds_toArray,List.set_cons_zero,List.set_cons_succ])
     refine anyN_take (i:=6) (v:=?_) rfl (by as_aux_lemma=>kernel_rfl) (by as_aux_lemma=>kernel_rfl) (by as_aux_lemma=>kernel_rfl) (by as_aux_lemma=>kernel_rfl) (fun _ _ _ h=>h) rfl ?_ HS.out ?_
     rotate_left
     ·(intro wz hSw;obtain ⟨s0,s1⟩:=hSw;go_simp)
      (try with_reducible rfl)
     (try simp only [Act.put,List.setIfInBounds_toArray,List.set_cons_zero,List.set_cons_succ])
     refine anyN_take (i:=7) (v:=?_) rfl (by as_aux_lemma=>kernel_rfl) (by as_aux_lemma=>kernel_rfl) (by as_aux_lemma=>kernel_rfl) (by as_aux_lemma=>kernel_rfl) (fun _ _ _ h=>h) rfl ?_ HS.out ?_
     rotate_left
     ·(intro wz hSw;obtain ⟨s0,s1⟩:=hSw;go_simp)
      (try with_reducible rfl)
     (try simp only [Act.put,List.setIfInBounds_toArray,List.set_cons_zero,List.set_cons_succ])
     refine anyN_one (i:=8) rfl (by as_aux_lemma=>kernel_rfl) (fun K hK=>?_)
     go_simp
     have hbx:=C3.out.lt
     have AB:=hide (((Below.refl w3.heap.size w3).alloc lr (.cells #[.string (srcN k),.string t] 76)).drew)
     have C6:=hide (C3.out.below AB.out)
     have hz6:=AB.out.size
     refine hK.out _ _ (fun _=>SQ.out _ (fun j hj _=>AB.out.block j hj)) ?_
     clear hK K HS
     (try simp only [Act.put,List.setIfInBounds_toArray,List.set_cons_zero,List.set_cons_succ])
     refine anyN_one (i:=9) rfl (by as_aux_lemma=>kernel_rfl) (fun K hK=>?_)
     refine step_append_own_at rfl (.tmp 33) (.tmp 40) 23 rfl (w.heap.size+2) 76 i0' (.agg #[.string ⟨#[]⟩,.string ⟨#[]⟩]) 2 32 Tryz.underlying23 hi hy0 hy1 hy2 rfl (by decide) v0 LS.length (LS.flatMap srcV) (by simp [Act.eval]) C6.out.src ⟨w3.heap.size,0,none⟩ 1 1 (srcV ⟨srcN k,t⟩) (by simp [Act.eval]) rfl (fun j u hu=>two_new w3 _ _ _ j u hu) (by simp [srcV,Value.oneCell']) (by unfold maxLen;omega) (by omega) (by omega) ?_
     intro v' w7 hown hgrow _
     obtain ⟨a7,c7,rfl⟩:=own_slice hown
     have S7:=hide (SQ.out w7 (fun j hj hne=>(hgrow.block j (Nat.lt_of_lt_of_le hj AB.out.size) hne).trans (AB.out.block j hj)))
     obtain ⟨c8,b8⟩:=C6.out.addS hown hgrow
     have C8:=hide c8
     have B8:=hide b8
     clear hown hgrow c8 b8
     refine hK.out _ _ (fun _=>S7.out) ?_
     clear hK K
     (try simp only [Act.put,List.setIfInBounds_toArray,List.set_cons_zero,List.set_cons_succ])
     refine anyN_one (i:=10) rfl (by as_aux_lemma=>kernel_rfl) (fun K hK=>?_)
     go_simp
     refine hK.out _ _ (fun _=>S7.out) ?_
     clear hK K
     (try simp only [Act.put,List.setIfInBounds_toArray,List.set_cons_zero,List.set_cons_succ])
     obtain ⟨s7,t7⟩:=S7.out
     have f7:w7.frozen? ⟨w.heap.size+1,0,none⟩=false:=by simp [World.frozen?,s7]
     have l7:=heap_in s7
     clear s7
     refine anyN_one (i:=11) rfl (by as_aux_lemma=>kernel_rfl) (fun K hK=>?_)
     go_simp
     refine hK.out _ _ (fun h=>absurd rfl h) ?_
     clear hK K
     (try simp only [Act.put,List.setIfInBounds_toArray,List.set_cons_zero,List.set_cons_succ])
     refine anyN_done (by as_aux_lemma=>kernel_rfl) ?_ _
     go_wp2
     have BB:=hide ((AB.out.mono (show w.heap.size+1≤w3.heap.size by omega)).trans B8.out)
     refine ⟨⟨k+1,_,.slice a7 (LS.length+1) c7,LS++[(⟨srcN k,t⟩:Source)],by omega,by omega,by rw [List.length_append];exact Nat.succ_le_succ hls,by go_num,C8.out,GG.out.addS (x:=⟨srcN k,t⟩) (by show (srcN k).size≤5000;rw [srcN_size k hlt];omega) (by show t.size≤5000;omega),R3.out.low BB.out (by omega),O3.out.then (BB.out.mono (Nat.le_succ _))⟩,by simp [intOf];omega⟩
   ·go_wp2
    exact ⟨⟨k+1,_,v0,LS,by omega,by omega,by omega,by go_num,C1.out,GG.out,R1.out,O1.out⟩,by simp [intOf];omega⟩
  ·obtain rfl:k=6:=by omega
   go_wp2_with fail
   refine (pick_any R q 8 _ RR.out (by omega) (by omega) (by omega)).mono ?_
   rintro e w1 ⟨z,rfl,hz0',hz1',hR1,hO1⟩
   have C1:=hide (CC.out.only hO1 hlow)
   have R1:=hide hR1
   have O1:=hide (OO.out.trans hO1)
   clear hR1 hO1
   obtain ⟨n,rfl⟩:∃ n:Nat,z=(n:Int):=⟨z.toNat,by omega⟩
   go_wp2_with fail
   go_loopw [7] (fun i wr=>∃ (j q:Nat) (v1:Value) (RT:List TR),j≤n+1∧q≤p+73+620*j∧RT.length=j∧i=.int .i64 j∧Hid (SpB w.heap.size wr v0 v1 LS RT)∧Hid (SpG LS RT)∧Hid (Rd wr R q)∧Hid (Only R w wr)) (fun i _=>n+1 - (intOf i).toNat)
   case atStart=>exact ⟨0,_,_,[],by omega,by omega,rfl,rfl,C1.out,GG.out,R1.out,O1.out⟩
   case round =>
    obtain ⟨j,q2,v1,RT,hj2,hq2,hrt,rfl,C2,G2,R2,O2⟩:=hrel
    obtain ⟨a1,c1,rfl⟩:=own_slice C2.out.tgt.own
    by_cases hjn:j<n+1
    ·have HRT:Hid (RT.length=j):=hrt
     have hrn:RT.length≤8:=by omega
     clear hrt
     have hwk:IntKind.i64.wrap ((j:Int)+1)=(j:Int)+1:=by rw [IntKind.wrap_i64];omega
     go_wp2_with fail
     refine (l1DrawProgram_any R q2 _ R2.out (by omega)).mono ?_
     rintro e w3 ⟨L,g,c,rfl,hI,hl1,hl2,hT,q3,hq3,hR3,hO3⟩
     have hlt2:=C2.out.lt
     have hs3:=hO3.size
     have C3:=hide (C2.out.only hO3 hlow)
     have B4:=hide ((Below.refl w3.heap.size w3).alloc lr (.cells #[.slice (some ⟨g,0,none⟩) L.length c] 31))
     have P4:=hide (prg_alloc (base:=w.heap.size+2) (RT:=RT) hI (by omega) (fun r hr=>C2.out.tgt.ltg r hr) (by omega) ⟨hl1,by omega⟩ hT)
     have C4:=hide (C3.out.below B4.out)
     have R4:=hide (hR3.below B4.out lr)
     have O4:=hide ((O2.out.trans hO3).then (B4.out.mono (by omega)))
     clear hR3 hO3 hI hT C3
     by_cases hj0:0<(j:Int)
     ·obtain ⟨gt,_,rfl,_⟩:=C2.out.tgt.atk (k:=0) (by have:=HRT.out;omega)
      go_wp2_with fail
      generalize w3.alloc (.cells #[.slice (some ⟨g,0,none⟩) L.length c] 31)=W4 at P4 C4 R4 O4 ⊢
      clear B4
      refine (pick_any R _ 5 _ R4.out (by omega) (by omega) (by omega)).mono ?_
      rintro e w5 ⟨z5,rfl,h50,h51,hR5,hO5⟩
      have C5:=hide (C4.out.only hO5 hlow)
      have P5:=hide (P4.out.only hO5 (by omega))
      have R5:=hide hR5
      have O5:=hide (O4.out.trans hO5)
      clear hR5 hO5
      by_cases hz5:z5=0
      ·subst hz5
       go_wp2_with fail
       have SQ:Hid (∀ V:World,(∀ j,j<w5.heap.size→j≠R→V.heap[j]?=w5.heap[j]?)→V.heap[w.heap.size+1]?=some (.cells #[v0,(.slice (some ⟨gt,0,none⟩) RT.length c1)] 26 (0,0))∧V.cell? ⟨w.heap.size+1,1,none⟩=some (.slice (some ⟨gt,0,none⟩) RT.length c1)):=fun V hV=>by
        have h1:=(hV (w.heap.size+1) C5.out.lt (by omega)).trans C5.out.box
        exact ⟨h1,by simp [World.cell?,h1]⟩
       refine wp_region_N (fun V=>V.heap[w.heap.size+1]?=some (.cells #[v0,(.slice (some ⟨gt,0,none⟩) RT.length c1)] 26 (0,0))∧V.cell? ⟨w.heap.size+1,1,none⟩=some (.slice (some ⟨gt,0,none⟩) RT.length c1)) 11 (by as_aux_lemma=>kernel_rfl) ?_
       have HS:=hide (SQ.out w5.drew (fun j hj _=>rfl))
       refine anyN_take (i:=0) (v:=?_) rfl (by as_aux_lemma=>kernel_rfl) (by as_aux_lemma=>kernel_rfl) (by as_aux_lemma=>kernel_rfl) (by as_aux_lemma=>kernel_rfl) (fun _ _ _ h=>h) rfl ?_ HS.out ?_
       rotate_left
       ·(intro wz hSw;obtain ⟨s0,s1⟩:=hSw;go_simp)
        (try with_reducible rfl)
       (try simp only [Act.put,List.setIfInBounds_toArray,List.set_cons_zero,List.set_cons_succ])
       refine anyN_take (i:=1) (v:=?_) rfl (by as_aux_lemma=>kernel_rfl) (by as_aux_lemma=>kernel_rfl) (by as_aux_lemma=>kernel_rfl) (by as_aux_lemma=>kernel_rfl) (fun _ _ _ h=>h) rfl ?_ HS.out ?_
       rotate_left
       ·(intro wz hSw;obtain ⟨s0,s1⟩:=hSw;go_simp)
        (try with_reducible rfl)
       (try simp only [Act.put,List.setIfInBounds_toArray,List.set_cons_zero,List.set_cons_succ])
       refine anyN_take (i:=2) (v:=?_) rfl (by as_aux_lemma=>kernel_rfl) (by as_aux_lemma=>kernel_rfl) (by as_aux_lemma=>kernel_rfl) (by as_aux_lemma=>kernel_rfl) (fun _ _ _ h=>h) rfl ?_ HS.out ?_
       rotate_left
       ·(intro wz hSw;obtain ⟨s0,s1⟩:=hSw;go_simp)
        (try with_reducible rfl)
       (try simp only [Act.put,List.setIfInBounds_toArray,List.set_cons_zero,List.set_cons_succ])
       refine anyN_take (i:=3) (v:=?_) rfl (by as_aux_lemma=>kernel_rfl) (by as_aux_lemma=>kernel_rfl) (by as_aux_lemma=>kernel_rfl) (by as_aux_lemma=>kernel_rfl) (fun _ _ _ h=>h) rfl ?_ HS.out ?_
       rotate_left
       ·(intro wz hSw;obtain ⟨s0,s1⟩:=hSw;go_simp)
        (try with_reducible rfl)
       (try simp only [Act.put,List.setIfInBounds_toArray,List.set_cons_zero,List.set_cons_succ])
       refine anyN_take (i:=4) (v:=?_) rfl (by as_aux_lemma=>kernel_rfl) (by as_aux_lemma=>kernel_rfl) (by as_aux_lemma=>kernel_rfl) (by as_aux_lemma=>kernel_rfl) (fun _ _ _ h=>h) rfl ?_ HS.out ?_
       rotate_left
       ·(intro wz hSw;obtain ⟨s0,s1⟩:=hSw;go_simp)
        (try with_reducible rfl)
       (try simp only [Act.put,List.setIfInBounds_toArray,List.set_cons_zero,List.set_cons_succ])
       refine anyN_take (i:=5) (v:=?_) rfl (by as_aux_lemma=>kernel_rfl) (by as_aux_lemma=>kernel_rfl) (by as_aux_lemma=>kernel_rfl) (by as_aux_lemma=>kernel_rfl) (fun _ _ _ h=>h) rfl ?_ HS.out ?_
       rotate_left
       ·(intro wz hSw;obtain ⟨s0,s1⟩:=hSw;go_simp)
        (try with_reducible rfl)
       (try simp only [Act.put,List.setIfInBounds_toArray,List.set_cons_zero,List.set_cons_succ])
       refine anyN_one (i:=6) rfl (by as_aux_lemma=>kernel_rfl) (fun K hK=>?_)
       go_simp
       go_at_call 32
       refine (pick_any R _ (RT.length:Int) _ (R5.out.below (Below.refl _ _).drew lr) (by omega) (by have:=HRT.out;omega) (by omega)).mono ?_
       rintro e w6 ⟨z6,rfl,h60,h61,hR6,hO6⟩
       obtain ⟨k6,rfl⟩:∃ k6:Nat,z6=(k6:Int):=⟨z6.toNat,by omega⟩
       have hk6:k6<RT.length:=by omega
       have O6':Hid (Only R w5 w6):=(Only.of_below (Below.refl _ _).drew).trans hO6
       have C6:=hide (C5.out.only O6'.out hlow)
       have P6:=hide (P5.out.only O6'.out (by omega))
       have R6:=hide hR6
       have O6:=hide (O5.out.trans O6'.out)
       clear hR6 hO6
       have S6:=hide (SQ.out w6 (fun j hj hne=>O6'.out.block j hj hne))
       obtain ⟨gt',r6,hgt,hgl,hm6,hc0,hc1,hsl⟩:=C6.out.tgt.atk hk6
       have SL6:=hide hsl
       have M6:=hide hm6
       clear hsl hm6
       injection hgt with e1
       injection e1 with e2
       subst e2
       refine hK.out _ _ (fun _=>S6.out) ?_
       clear hK K HS
       (try simp only [Act.put,List.setIfInBounds_toArray,List.set_cons_zero,List.set_cons_succ])
       refine anyN_one (i:=7) rfl (by as_aux_lemma=>kernel_rfl) (fun K hK=>?_)
       go_simp
       refine hK.out _ _ (fun _=>S6.out) ?_
       clear hK K
       (try simp only [Act.put,List.setIfInBounds_toArray,List.set_cons_zero,List.set_cons_succ])
       refine anyN_one (i:=8) rfl (by as_aux_lemma=>kernel_rfl) (fun K hK=>?_)
       go_simp
       refine hK.out _ _ (fun _=>S6.out) ?_
       clear hK K
       (try simp only [Act.put,List.setIfInBounds_toArray,List.set_cons_zero,List.set_cons_succ])
       refine anyN_one (i:=9) rfl (by as_aux_lemma=>kernel_rfl) (fun K hK=>?_)
       go_simp
       refine hK.out _ _ (fun _=>S6.out) ?_
       clear hK K
       (try simp only [Act.put,List.setIfInBounds_toArray,List.set_cons_zero,List.set_cons_succ])
       refine anyN_one (i:=10) rfl (by as_aux_lemma=>kernel_rfl) (fun K hK=>?_)
       go_simp
       go_at_call 62
       refine (l2Program_any _ _ _ r6.1.act _ (by have:=(G2.out.t r6 M6.out).2.1.2;omega) SL6.out).mono ?_
       rintro e w7 ⟨g7,c7,rfl,hw7,hB7⟩
       have hf7:=G2.out.t r6 M6.out
       have C7:=hide (C6.out.below hB7)
       have P7:=hide (P6.out.below hB7 lr)
       have R7:=hide (R6.out.below hB7 lr)
       have O7:=hide (O6.out.then (hB7.mono O6.out.size))
       have P8:=hide (P7.out.put hw7 (by have:=C6.out.lt;omega) (fun r hr=>C6.out.tgt.ltg r hr) hf7.2.1 hf7.2.2)
       have S7:=hide (SQ.out w7 (fun j hj hne=>(hB7.block j (Nat.lt_of_lt_of_le hj O6'.out.size)).trans (O6'.out.block j hj hne)))
       clear hw7 hB7 hf7
       refine hK.out _ _ (fun _=>S7.out) ?_
       clear hK K
       (try simp only [Act.put,List.setIfInBounds_toArray,List.set_cons_zero,List.set_cons_succ])
       have k7:=P7.out.blk.c0
       have z7:=P7.out.blk.fz 0
       have l7:=P7.out.blk.lt
       have lo7:=P7.out.lo
       have C8:=hide (C7.out.putP P7.out.blk lo7 (.slice (some ⟨g7,0,none⟩) r6.1.actN c7))
       have B8:=hide ((Below.refl w3.heap.size w7).setCell (p:=⟨w3.heap.size,0,none⟩) lr (.slice (some ⟨g7,0,none⟩) r6.1.actN c7))
       have R8:=hide (R7.out.low B8.out (by omega))
       have O8:=hide (O7.out.then (B8.out.mono (by omega)))
       clear C7 P7 R7 O7
       refine anyN_one (i:=11) rfl (by as_aux_lemma=>kernel_rfl) (fun K hK=>?_)
       go_simp
       refine hK.out _ _ (fun h=>absurd rfl h) ?_
       clear hK K k7 z7
       (try simp only [Act.put,List.setIfInBounds_toArray,List.set_cons_zero,List.set_cons_succ])
       refine anyN_done (by as_aux_lemma=>kernel_rfl) ?_ _
       go_wp2_with fail
       generalize w7.setCell ⟨w3.heap.size,0,none⟩ (.slice (some ⟨g7,0,none⟩) r6.1.actN c7)=W8 at P8 C8 R8 O8 ⊢
       clear B8 l7 S7 S6 SQ
       refine (pick_any R _ 2 _ R8.out (by omega) (by omega) (by omega)).mono ?_
       rintro e w9 ⟨z9,rfl,h90,h91,hR9,hO9⟩
       have C9:=hide (C8.out.only hO9 hlow)
       have P9:=hide (P8.out.only hO9 (by omega))
       have R9:=hide hR9
       have O9:=hide (O8.out.trans hO9)
       clear hR9 hO9
       by_cases hz9:z9=0
       ·subst hz9
        go_wp2_with fail
        have SQ:Hid (∀ V:World,(∀ j,j<w9.heap.size→j≠R→V.heap[j]?=w9.heap[j]?)→V.heap[w.heap.size+1]?=some (.cells #[v0,(.slice (some ⟨gt,0,none⟩) RT.length c1)] 26 (0,0))∧V.cell? ⟨w.heap.size+1,1,none⟩=some (.slice (some ⟨gt,0,none⟩) RT.length c1)):=fun V hV=>by
         have h1:=(hV (w.heap.size+1) C9.out.lt (by omega)).trans C9.out.box
         exact ⟨h1,by simp [World.cell?,h1]⟩
        refine wp_region_N (fun V=>V.heap[w.heap.size+1]?=some (.cells #[v0,(.slice (some ⟨gt,0,none⟩) RT.length c1)] 26 (0,0))∧V.cell? ⟨w.heap.size+1,1,none⟩=some (.slice (some ⟨gt,0,none⟩) RT.length c1)) 10 (by as_aux_lemma=>kernel_rfl) ?_
        have HS:=hide (SQ.out w9.drew (fun j hj _=>rfl))
        refine anyN_take (i:=0) (v:=?_) rfl (by as_aux_lemma=>kernel_rfl) (by as_aux_lemma=>kernel_rfl) (by as_aux_lemma=>kernel_rfl) (by as_aux_lemma=>kernel_rfl) (fun _ _ _ h=>h) rfl ?_ HS.out ?_
        rotate_left
        ·(intro wz hSw;obtain ⟨s0,s1⟩:=hSw;go_simp)
         (try with_reducible rfl)
        (try simp only [Act.put,List.setIfInBounds_toArray,List.set_cons_zero,List.set_cons_succ])
        refine anyN_take (i:=1) (v:=?_) rfl (by as_aux_lemma=>kernel_rfl) (by as_aux_lemma=>kernel_rfl) (by as_aux_lemma=>kernel_rfl) (by as_aux_lemma=>kernel_rfl) (fun _ _ _ h=>h) rfl ?_ HS.out ?_
        rotate_left
        ·(intro wz hSw;obtain ⟨s0,s1⟩:=hSw;go_simp)
         (try with_reducible rfl)
        (try simp only [Act.put,List.setIfInBounds_toArray,List.set_cons_zero,List.set_cons_succ])
        refine anyN_take (i:=2) (v:=?_) rfl (by as_aux_lemma=>kernel_rfl) (by as_aux_lemma=>kernel_rfl) (by as_aux_lemma=>kernel_rfl) (by as_aux_lemma=>kernel_rfl) (fun _ _ _ h=>h) rfl ?_ HS.out ?_
        rotate_left
        ·(intro wz hSw;obtain ⟨s0,s1⟩:=hSw;go_simp)
         (try with_reducible rfl)
        (try simp only [Act.put,List.setIfInBounds_toArray,List.set_cons_zero,List.set_cons_succ])
        refine anyN_take (i:=3) (v:=?_) rfl (by as_aux_lemma=>kernel_rfl) (by as_aux_lemma=>kernel_rfl) (by as_aux_lemma=>kernel_rfl) (by as_aux_lemma=>kernel_rfl) (fun _ _ _ h=>h) rfl ?_ HS.out ?_
        rotate_left
        ·(intro wz hSw;obtain ⟨s0,s1⟩:=hSw;go_simp)
         (try with_reducible rfl)
        (try simp only [Act.put,List.setIfInBounds_toArray,List.set_cons_zero,List.set_cons_succ])
        refine anyN_take (i:=4) (v:=?_) rfl (by as_aux_lemma=>kernel_rfl) (by as_aux_lemma=>kernel_rfl) (by as_aux_lemma=>kernel_rfl) (by as_aux_lemma=>kernel_rfl) (fun _ _ _ h=>h) rfl ?_ HS.out ?_
        rotate_left
        ·(intro wz hSw;obtain ⟨s0,s1⟩:=hSw;go_simp)
         (try with_reducible rfl)
        (try simp only [Act.put,List.setIfInBounds_toArray,List.set_cons_zero,List.set_cons_succ])
        refine anyN_take (i:=5) (v:=?_) rfl (by as_aux_lemma=>kernel_rfl) (by as_aux_lemma=>kernel_rfl) (by as_aux_lemma=>kernel_rfl) (by as_aux_lemma=>kernel_rfl) (fun _ _ _ h=>h) rfl ?_ HS.out ?_
        rotate_left
        ·(intro wz hSw;obtain ⟨s0,s1⟩:=hSw;go_simp)
         (try with_reducible rfl)
        (try simp only [Act.put,List.setIfInBounds_toArray,List.set_cons_zero,List.set_cons_succ])
        refine anyN_one (i:=6) rfl (by as_aux_lemma=>kernel_rfl) (fun K hK=>?_)
        go_simp
        go_at_call 32
        refine (pick_any R _ (RT.length:Int) _ (R9.out.below (Below.refl _ _).drew lr) (by omega) (by have:=HRT.out;omega) (by omega)).mono ?_
        rintro e w6 ⟨z6,rfl,h60,h61,hR6,hO6⟩
        obtain ⟨k6,rfl⟩:∃ k6:Nat,z6=(k6:Int):=⟨z6.toNat,by omega⟩
        have hk6:k6<RT.length:=by omega
        have O6':Hid (Only R w9 w6):=(Only.of_below (Below.refl _ _).drew).trans hO6
        have C6:=hide (C9.out.only O6'.out hlow)
        have P6:=hide (P9.out.only O6'.out (by omega))
        have R6:=hide hR6
        have O6:=hide (O9.out.trans O6'.out)
        clear hR6 hO6
        have S6:=hide (SQ.out w6 (fun j hj hne=>O6'.out.block j hj hne))
        obtain ⟨gt',r6,hgt,hgl,hm6,hc0,hc1,hsl⟩:=C6.out.tgt.atk hk6
        have SL6:=hide hsl
        have M6:=hide hm6
        clear hsl hm6
        injection hgt with e1
        injection e1 with e2
        subst e2
        refine hK.out _ _ (fun _=>S6.out) ?_
        clear hK K HS
        (try simp only [Act.put,List.setIfInBounds_toArray,List.set_cons_zero,List.set_cons_succ])
        refine anyN_one (i:=7) rfl (by as_aux_lemma=>kernel_rfl) (fun K hK=>?_)
        go_simp
        refine hK.out _ _ (fun _=>S6.out) ?_
        clear hK K
        (try simp only [Act.put,List.setIfInBounds_toArray,List.set_cons_zero,List.set_cons_succ])
        refine anyN_one (i:=8) rfl (by as_aux_lemma=>kernel_rfl) (fun K hK=>?_)
        go_simp
        refine hK.out _ _ (fun _=>S6.out) ?_
        clear hK K
        (try simp only [Act.put,List.setIfInBounds_toArray,List.set_cons_zero,List.set_cons_succ])
        refine anyN_one (i:=9) rfl (by as_aux_lemma=>kernel_rfl) (fun K hK=>?_)
        go_simp
        refine hK.out _ _ (fun _=>S6.out) ?_
        clear hK K
        (try simp only [Act.put,List.setIfInBounds_toArray,List.set_cons_zero,List.set_cons_succ])
        refine anyN_one (i:=10) rfl (by as_aux_lemma=>kernel_rfl) (fun K hK=>?_)
        go_simp
        refine hK.out _ _ (fun h=>absurd rfl h) ?_
        have hnm:=(G2.out.t r6 M6.out).1
        clear hK K SQ S6 SL6 M6
        (try simp only [Act.put,List.setIfInBounds_toArray,List.set_cons_zero,List.set_cons_succ])
        refine anyN_done (by as_aux_lemma=>kernel_rfl) ?_ _
        go_wp2_with fail
        refine (l1Lit_any _ _).mono ?_
        rintro e wa ⟨rfl,hB⟩
        have Ca:=hide (C6.out.below hB)
        have Pa:=hide (P6.out.below hB lr)
        have Ra:=hide (R6.out.below hB lr)
        have Oa:=hide (O6.out.then (hB.mono O6.out.size))
        clear hB C6 P6 R6 O6
        go_wp2_with fail
        refine (l1Op_any 12 _).mono ?_
        rintro e wb ⟨rfl,hB⟩
        have Cb:=hide (Ca.out.below hB)
        have Pb:=hide (Pa.out.below hB lr)
        have Rb:=hide (Ra.out.below hB lr)
        have Ob:=hide (Oa.out.then (hB.mono Oa.out.size))
        clear hB Ca Pa Ra Oa
        go_wp2_with fail
        refine (l1Text_any R _ _ Rb.out (by omega)).mono ?_
        rintro e wc ⟨tc,rfl,htc,qc,hqc,hR,hO⟩
        have Cc:=hide (Cb.out.only hO hlow)
        have Pc:=hide (Pb.out.only hO (by omega))
        have Rc:=hide hR
        have Oc:=hide (Ob.out.trans hO)
        clear hO hR Cb Pb Rb Ob
        go_wp2_with fail
        refine (l1Lit_any tc _).mono ?_
        rintro e wd ⟨rfl,hB⟩
        have Cd:=hide (Cc.out.below hB)
        have Pd:=hide (Pc.out.below hB lr)
        have Rd:=hide (Rc.out.below hB lr)
        have Od:=hide (Oc.out.then (hB.mono Oc.out.size))
        clear hB Cc Pc Rc Oc
        go_wp2_with fail
        refine (l1Op_any 2 _).mono ?_
        rintro e we ⟨rfl,hB⟩
        have Ce:=hide (Cd.out.below hB)
        have Pe:=hide (Pd.out.below hB lr)
        have Re:=hide (Rd.out.below hB lr)
        have Oe:=hide (Od.out.then (hB.mono Od.out.size))
        clear hB Cd Pd Rd Od
        go_wp2_with fail
        refine (pick_any R _ 9 _ Re.out (by omega) (by omega) (by omega)).mono ?_
        rintro e wf ⟨zf,rfl,hf0,hf1,hR,hO⟩
        have Cf:=hide (Ce.out.only hO hlow)
        have Pf:=hide (Pe.out.only hO (by omega))
        have Rf:=hide hR
        have Of:=hide (Oe.out.trans hO)
        clear hO hR Ce Pe Re Oe
        go_wp2_with fail
        refine (l1OpN_any 3 _ _).mono ?_
        rintro e wg ⟨rfl,hB⟩
        have Cg:=hide (Cf.out.below hB)
        have Pg:=hide (Pf.out.below hB lr)
        have Rg:=hide (Rf.out.below hB lr)
        have Og:=hide (Of.out.then (hB.mono Of.out.size))
        clear hB Cf Pf Rf Of
        go_wp2_with fail
        refine (l1Op_any 15 _).mono ?_
        rintro e wh ⟨rfl,hB⟩
        have Ch:=hide (Cg.out.below hB)
        have Ph:=hide (Pg.out.below hB lr)
        have Rh:=hide (Rg.out.below hB lr)
        have Oh:=hide (Og.out.then (hB.mono Og.out.size))
        clear hB Cg Pg Rg Og
        have kh:=Ph.out.blk.c0
        have zh:=Ph.out.blk.fz 0
        have lh:=Ph.out.blk.lt
        have P10:=hide (Ph.out.six (fun r hr=>Ch.out.tgt.ltg r hr) (by have:=Ch.out.lt;omega) r6.1.name tc (1+zf) (hnm) (by omega))
        have hzs:(wh.setCell ⟨w3.heap.size,0,none⟩ (.slice (some ⟨wh.heap.size,0,none⟩) 6 6)).heap.size=wh.heap.size:=by simp
        have lo10:=Ph.out.lo
        have Ba:=hide (((Below.refl w3.heap.size wh).setCell (p:=⟨w3.heap.size,0,none⟩) lr (.slice (some ⟨wh.heap.size,0,none⟩) 6 6)).alloc (by rw [hzs];omega) (.cells (sixC r6.1.name tc (1+zf)) 129))
        have C10:=hide ((Ch.out.putP Ph.out.blk Ph.out.lo (.slice (some ⟨wh.heap.size,0,none⟩) 6 6)).below ((Below.refl _ _).alloc lr (.cells (sixC r6.1.name tc (1+zf)) 129)))
        have R10:=hide (Rh.out.low Ba.out (by omega))
        have O10:=hide (Oh.out.then (Ba.out.mono (by omega)))
        clear Ba Ph Ch Rh Oh hzs
        go_wp2_with fail
        generalize (wh.setCell ⟨w3.heap.size,0,none⟩ (.slice (some ⟨wh.heap.size,0,none⟩) 6 6)).alloc (.cells (sixC r6.1.name tc (1+zf)) 129)=W10 at P10 C10 R10 O10 ⊢
        clear kh zh lh lo10
        obtain ⟨gp,cp,mp,fp,PP⟩:∃ gp cp mp fp,Hid (PrG (w.heap.size+2) W10 RT w3.heap.size gp cp mp fp):=⟨_,_,_,_,P10.out⟩
        clear P10
        have SQ:Hid (∀ V:World,(∀ j,j<W10.heap.size→some j≠(Value.slice (some ⟨gt,0,none⟩) RT.length c1).ownBlock→V.heap[j]?=W10.heap[j]?)→V.heap[w.heap.size+1]?=some (.cells #[v0,.slice (some ⟨gt,0,none⟩) RT.length c1] 26 (0,0))∧V.cell? ⟨w.heap.size+1,1,none⟩=some (.slice (some ⟨gt,0,none⟩) RT.length c1)∧V.cell? ⟨w3.heap.size,0,none⟩=some (.slice (some ⟨gp,0,none⟩) mp cp)):=fun V hV=>by
         have h1:=(hV (w.heap.size+1) C10.out.lt fun e=>by have:=(C10.out.tgt.own.lt _ e.symm).1;omega).trans C10.out.box
         have h2:PB V w3.heap.size (.slice (some ⟨gp,0,none⟩) mp cp):=(hV w3.heap.size PP.out.blk.lt fun e=>by
          obtain ⟨cur,hcur⟩:=C10.out.tgt.type _ e.symm
          have h3:=PP.out.blk.symm.trans hcur
          cases h3).trans PP.out.blk
         exact ⟨h1,by simp [World.cell?,h1],h2.c0⟩
        refine wp_region_N (fun V=>V.heap[w.heap.size+1]?=some (.cells #[v0,.slice (some ⟨gt,0,none⟩) RT.length c1] 26 (0,0))∧V.cell? ⟨w.heap.size+1,1,none⟩=some (.slice (some ⟨gt,0,none⟩) RT.length c1)∧V.cell? ⟨w3.heap.size,0,none⟩=some (.slice (some ⟨gp,0,none⟩) mp cp)) 10 (by as_aux_lemma=>kernel_rfl) ?_
        have HS:=hide (SQ.out W10.drew (fun j hj _=>rfl))
        refine anyN_take (i:=0) (v:=?_) rfl (by as_aux_lemma=>kernel_rfl) (by as_aux_lemma=>kernel_rfl) (by as_aux_lemma=>kernel_rfl) (by as_aux_lemma=>kernel_rfl) (fun _ _ _ h=>h) rfl ?_ HS.out ?_
        rotate_left
        ·(intro wz hSw;obtain ⟨s0,s1,s2⟩:=hSw;go_simp)
         (try with_reducible rfl)
        (try simp only [Act.put,List.setIfInBounds_toArray,List.set_cons_zero,List.set_cons_succ])
        refine anyN_take (i:=1) (v:=?_) rfl (by as_aux_lemma=>kernel_rfl) (by as_aux_lemma=>kernel_rfl) (by as_aux_lemma=>kernel_rfl) (by as_aux_lemma=>kernel_rfl) (fun _ _ _ h=>h) rfl ?_ HS.out ?_
        rotate_left
        ·(intro wz hSw;obtain ⟨s0,s1,s2⟩:=hSw;go_simp)
         (try with_reducible rfl)
        (try simp only [Act.put,List.setIfInBounds_toArray,List.set_cons_zero,List.set_cons_succ])
        refine anyN_take (i:=2) (v:=?_) rfl (by as_aux_lemma=>kernel_rfl) (by as_aux_lemma=>kernel_rfl) (by as_aux_lemma=>kernel_rfl) (by as_aux_lemma=>kernel_rfl) (fun _ _ _ h=>h) rfl ?_ HS.out ?_
        rotate_left
        ·(intro wz hSw;obtain ⟨s0,s1,s2⟩:=hSw;go_simp)
         (try with_reducible rfl)
        (try simp only [Act.put,List.setIfInBounds_toArray,List.set_cons_zero,List.set_cons_succ])
        refine anyN_take (i:=5) (v:=?_) rfl (by as_aux_lemma=>kernel_rfl) (by as_aux_lemma=>kernel_rfl) (by as_aux_lemma=>kernel_rfl) (by as_aux_lemma=>kernel_rfl) (fun _ _ _ h=>h) rfl ?_ HS.out ?_
        rotate_left
        ·(intro wz hSw;obtain ⟨s0,s1,s2⟩:=hSw;go_simp)
         (try with_reducible rfl)
        (try simp only [Act.put,List.setIfInBounds_toArray,List.set_cons_zero,List.set_cons_succ])
        refine anyN_one (i:=3) rfl (by as_aux_lemma=>kernel_rfl) (fun K hK=>?_)
        go_simp
        go_at_call 89
        refine (l1Dec_small j (by omega) _).mono ?_
        rintro e wt ⟨rfl,hBt⟩
        have BT:Hid (Below W10.heap.size W10 wt):=(Below.refl W10.heap.size W10).drew.trans hBt
        clear hBt
        refine hK.out _ _ (fun _=>SQ.out _ (fun j hj _=>BT.out.block j hj)) ?_
        clear hK K HS
        (try simp only [Act.put,List.setIfInBounds_toArray,List.set_cons_zero,List.set_cons_succ])
        refine anyN_one (i:=4) rfl (by as_aux_lemma=>kernel_rfl) (fun K hK=>?_)
        go_simp
        refine hK.out _ _ (fun _=>SQ.out _ (fun j hj _=>BT.out.block j hj)) ?_
        clear hK K
        (try simp only [Act.put,List.setIfInBounds_toArray,List.set_cons_zero,List.set_cons_succ])
        have htn:((⟨#[116]⟩:ByteArray)++⟨#[dig j]⟩).size≤5000:=by
         have e1:(⟨#[116]⟩:ByteArray).size=1:=rfl
         have e2:(⟨#[dig j]⟩:ByteArray).size=1:=rfl
         simp only [ByteArray.size_append,e1,e2]
         omega
        generalize (⟨#[116]⟩:ByteArray)++⟨#[dig j]⟩=tn at htn ⊢
        refine anyN_one (i:=6) rfl (by as_aux_lemma=>kernel_rfl) (fun K hK=>?_)
        go_simp
        refine hK.out _ _ (fun _=>SQ.out _ (fun j hj _=>BT.out.block j hj)) ?_
        clear hK K
        (try simp only [Act.put,List.setIfInBounds_toArray,List.set_cons_zero,List.set_cons_succ])
        refine anyN_one (i:=7) rfl (by as_aux_lemma=>kernel_rfl) (fun K hK=>?_)
        go_simp
        have hbx:=C10.out.lt
        have hzt:=BT.out.size
        have AB:=hide (BT.out.alloc (by omega) (.cells #[.string tn,.slice (some ⟨gp,0,none⟩) mp cp] 80))
        have C11:=hide (C10.out.below AB.out)
        have P11:=hide (PP.out.below AB.out lr)
        have hz6:=AB.out.size
        refine hK.out _ _ (fun _=>SQ.out _ (fun j hj _=>AB.out.block j hj)) ?_
        clear hK K
        (try simp only [Act.put,List.setIfInBounds_toArray,List.set_cons_zero,List.set_cons_succ])
        refine anyN_one (i:=8) rfl (by as_aux_lemma=>kernel_rfl) (fun K hK=>?_)
        refine step_append_own_at rfl (.tmp 101) (.tmp 107) 24 rfl (w.heap.size+2) 80 i1' (.agg #[.string ⟨#[]⟩,.slice none 0 0]) 2 40 Tryz.underlying24 hj hz0 hz1 hz2 rfl (by decide) (.slice (some ⟨gt,0,none⟩) RT.length c1) RT.length (RT.flatMap tgtV) (by simp [Act.eval]) C11.out.tgt.own ⟨wt.heap.size,0,none⟩ 1 1 (tgtV (⟨tn,mp,fp⟩,gp,cp)) (by simp [Act.eval]) rfl (fun j u hu=>two_new wt _ _ _ j u hu) (by simp [tgtV,Value.oneCell']) (by unfold maxLen;omega) (by omega) (by omega) ?_
        intro v' w7 hown hgrow _
        obtain ⟨a7,c7,rfl⟩:=own_slice hown
        have S7:=hide (SQ.out w7 (fun j hj hne=>(hgrow.block j (Nat.lt_of_lt_of_le hj AB.out.size) hne).trans (AB.out.block j hj)))
        obtain ⟨c8,b8⟩:=C11.out.addT (x:=⟨tn,mp,fp⟩) (g:=gp) (c:=cp) P11.out.new P11.out.own hown hgrow
        have C12:=hide c8
        have B12:=hide b8
        clear hown hgrow c8 b8
        refine hK.out _ _ (fun _=>S7.out) ?_
        clear hK K
        (try simp only [Act.put,List.setIfInBounds_toArray,List.set_cons_zero,List.set_cons_succ])
        refine anyN_one (i:=9) rfl (by as_aux_lemma=>kernel_rfl) (fun K hK=>?_)
        go_simp
        refine hK.out _ _ (fun _=>S7.out) ?_
        clear hK K
        (try simp only [Act.put,List.setIfInBounds_toArray,List.set_cons_zero,List.set_cons_succ])
        obtain ⟨s7,t7,y7⟩:=S7.out
        have f7:w7.frozen? ⟨w.heap.size+1,1,none⟩=false:=by simp [World.frozen?,s7]
        have l7:=heap_in s7
        clear s7 y7
        refine anyN_one (i:=10) rfl (by as_aux_lemma=>kernel_rfl) (fun K hK=>?_)
        go_simp
        refine hK.out _ _ (fun h=>absurd rfl h) ?_
        clear hK K
        (try simp only [Act.put,List.setIfInBounds_toArray,List.set_cons_zero,List.set_cons_succ])
        refine anyN_done (by as_aux_lemma=>kernel_rfl) ?_ _
        go_wp2
        have BB:=hide ((AB.out.mono (show w.heap.size+1≤W10.heap.size by omega)).trans B12.out)
        refine ⟨⟨j+1,_,.slice a7 (RT.length+1) c7,RT++[((⟨tn,mp,fp⟩,gp,cp):TR)],by omega,by omega,by rw [List.length_append,HRT.out];rfl,by go_num,C12.out,G2.out.addT (r:=(⟨tn,mp,fp⟩,gp,cp)) htn PP.out.num PP.out.sz,R10.out.low BB.out (by omega),O10.out.then (BB.out.mono (Nat.le_succ _))⟩,by simp [intOf];omega⟩
       ·go_wp2_with fail
        obtain ⟨gp,cp,mp,fp,PP⟩:∃ gp cp mp fp,Hid (PrG (w.heap.size+2) w9 RT w3.heap.size gp cp mp fp):=⟨_,_,_,_,P9.out⟩
        clear P9
        have SQ:Hid (∀ V:World,(∀ j,j<w9.heap.size→some j≠(Value.slice (some ⟨gt,0,none⟩) RT.length c1).ownBlock→V.heap[j]?=w9.heap[j]?)→V.heap[w.heap.size+1]?=some (.cells #[v0,.slice (some ⟨gt,0,none⟩) RT.length c1] 26 (0,0))∧V.cell? ⟨w.heap.size+1,1,none⟩=some (.slice (some ⟨gt,0,none⟩) RT.length c1)∧V.cell? ⟨w3.heap.size,0,none⟩=some (.slice (some ⟨gp,0,none⟩) mp cp)):=fun V hV=>by
         have h1:=(hV (w.heap.size+1) C9.out.lt fun e=>by have:=(C9.out.tgt.own.lt _ e.symm).1;omega).trans C9.out.box
         have h2:PB V w3.heap.size (.slice (some ⟨gp,0,none⟩) mp cp):=(hV w3.heap.size PP.out.blk.lt fun e=>by
          obtain ⟨cur,hcur⟩:=C9.out.tgt.type _ e.symm
          have h3:=PP.out.blk.symm.trans hcur
          cases h3).trans PP.out.blk
         exact ⟨h1,by simp [World.cell?,h1],h2.c0⟩
        refine wp_region_N (fun V=>V.heap[w.heap.size+1]?=some (.cells #[v0,.slice (some ⟨gt,0,none⟩) RT.length c1] 26 (0,0))∧V.cell? ⟨w.heap.size+1,1,none⟩=some (.slice (some ⟨gt,0,none⟩) RT.length c1)∧V.cell? ⟨w3.heap.size,0,none⟩=some (.slice (some ⟨gp,0,none⟩) mp cp)) 10 (by as_aux_lemma=>kernel_rfl) ?_
        have HS:=hide (SQ.out w9.drew (fun j hj _=>rfl))
        refine anyN_take (i:=0) (v:=?_) rfl (by as_aux_lemma=>kernel_rfl) (by as_aux_lemma=>kernel_rfl) (by as_aux_lemma=>kernel_rfl) (by as_aux_lemma=>kernel_rfl) (fun _ _ _ h=>h) rfl ?_ HS.out ?_
        rotate_left
        ·(intro wz hSw;obtain ⟨s0,s1,s2⟩:=hSw;go_simp)
         (try with_reducible rfl)
        (try simp only [Act.put,List.setIfInBounds_toArray,List.set_cons_zero,List.set_cons_succ])
        refine anyN_take (i:=1) (v:=?_) rfl (by as_aux_lemma=>kernel_rfl) (by as_aux_lemma=>kernel_rfl) (by as_aux_lemma=>kernel_rfl) (by as_aux_lemma=>kernel_rfl) (fun _ _ _ h=>h) rfl ?_ HS.out ?_
        rotate_left
        ·(intro wz hSw;obtain ⟨s0,s1,s2⟩:=hSw;go_simp)
         (try with_reducible rfl)
        (try simp only [Act.put,List.setIfInBounds_toArray,List.set_cons_zero,List.set_cons_succ])
        refine anyN_take (i:=2) (v:=?_) rfl (by as_aux_lemma=>kernel_rfl) (by as_aux_lemma=>kernel_rfl) (by as_aux_lemma=>kernel_rfl) (by as_aux_lemma=>kernel_rfl) (fun _ _ _ h=>h) rfl ?_ HS.out ?_
        rotate_left
        ·(intro wz hSw;obtain ⟨s0,s1,s2⟩:=hSw;go_simp)
         (try with_reducible rfl)
        (try simp only [Act.put,List.setIfInBounds_toArray,List.set_cons_zero,List.set_cons_succ])
        refine anyN_take (i:=5) (v:=?_) rfl (by as_aux_lemma=>kernel_rfl) (by as_aux_lemma=>kernel_rfl) (by as_aux_lemma=>kernel_rfl) (by as_aux_lemma=>kernel_rfl) (fun _ _ _ h=>h) rfl ?_ HS.out ?_
        rotate_left
        ·(intro wz hSw;obtain ⟨s0,s1,s2⟩:=hSw;go_simp)
         (try with_reducible rfl)
        (try simp only [Act.put,List.setIfInBounds_toArray,List.set_cons_zero,List.set_cons_succ])
        refine anyN_one (i:=3) rfl (by as_aux_lemma=>kernel_rfl) (fun K hK=>?_)
        go_simp
        go_at_call 89
        refine (l1Dec_small j (by omega) _).mono ?_
        rintro e wt ⟨rfl,hBt⟩
        have BT:Hid (Below w9.heap.size w9 wt):=(Below.refl w9.heap.size w9).drew.trans hBt
        clear hBt
        refine hK.out _ _ (fun _=>SQ.out _ (fun j hj _=>BT.out.block j hj)) ?_
        clear hK K HS
        (try simp only [Act.put,List.setIfInBounds_toArray,List.set_cons_zero,List.set_cons_succ])
        refine anyN_one (i:=4) rfl (by as_aux_lemma=>kernel_rfl) (fun K hK=>?_)
        go_simp
        refine hK.out _ _ (fun _=>SQ.out _ (fun j hj _=>BT.out.block j hj)) ?_
        clear hK K
        (try simp only [Act.put,List.setIfInBounds_toArray,List.set_cons_zero,List.set_cons_succ])
        have htn:((⟨#[116]⟩:ByteArray)++⟨#[dig j]⟩).size≤5000:=by
         have e1:(⟨#[116]⟩:ByteArray).size=1:=rfl
         have e2:(⟨#[dig j]⟩:ByteArray).size=1:=rfl
         simp only [ByteArray.size_append,e1,e2]
         omega
        generalize (⟨#[116]⟩:ByteArray)++⟨#[dig j]⟩=tn at htn ⊢
        refine anyN_one (i:=6) rfl (by as_aux_lemma=>kernel_rfl) (fun K hK=>?_)
        go_simp
        refine hK.out _ _ (fun _=>SQ.out _ (fun j hj _=>BT.out.block j hj)) ?_
        clear hK K
        (try simp only [Act.put,List.setIfInBounds_toArray,List.set_cons_zero,List.set_cons_succ])
        refine anyN_one (i:=7) rfl (by as_aux_lemma=>kernel_rfl) (fun K hK=>?_)
        go_simp
        have hbx:=C9.out.lt
        have hzt:=BT.out.size
        have AB:=hide (BT.out.alloc (by omega) (.cells #[.string tn,.slice (some ⟨gp,0,none⟩) mp cp] 80))
        have C11:=hide (C9.out.below AB.out)
        have P11:=hide (PP.out.below AB.out lr)
        have hz6:=AB.out.size
        refine hK.out _ _ (fun _=>SQ.out _ (fun j hj _=>AB.out.block j hj)) ?_
        clear hK K
        (try simp only [Act.put,List.setIfInBounds_toArray,List.set_cons_zero,List.set_cons_succ])
        refine anyN_one (i:=8) rfl (by as_aux_lemma=>kernel_rfl) (fun K hK=>?_)
        refine step_append_own_at rfl (.tmp 101) (.tmp 107) 24 rfl (w.heap.size+2) 80 i1' (.agg #[.string ⟨#[]⟩,.slice none 0 0]) 2 40 Tryz.underlying24 hj hz0 hz1 hz2 rfl (by decide) (.slice (some ⟨gt,0,none⟩) RT.length c1) RT.length (RT.flatMap tgtV) (by simp [Act.eval]) C11.out.tgt.own ⟨wt.heap.size,0,none⟩ 1 1 (tgtV (⟨tn,mp,fp⟩,gp,cp)) (by simp [Act.eval]) rfl (fun j u hu=>two_new wt _ _ _ j u hu) (by simp [tgtV,Value.oneCell']) (by unfold maxLen;omega) (by omega) (by omega) ?_
        intro v' w7 hown hgrow _
        obtain ⟨a7,c7,rfl⟩:=own_slice hown
        have S7:=hide (SQ.out w7 (fun j hj hne=>(hgrow.block j (Nat.lt_of_lt_of_le hj AB.out.size) hne).trans (AB.out.block j hj)))
        obtain ⟨c8,b8⟩:=C11.out.addT (x:=⟨tn,mp,fp⟩) (g:=gp) (c:=cp) P11.out.new P11.out.own hown hgrow
        have C12:=hide c8
        have B12:=hide b8
        clear hown hgrow c8 b8
        refine hK.out _ _ (fun _=>S7.out) ?_
        clear hK K
        (try simp only [Act.put,List.setIfInBounds_toArray,List.set_cons_zero,List.set_cons_succ])
        refine anyN_one (i:=9) rfl (by as_aux_lemma=>kernel_rfl) (fun K hK=>?_)
        go_simp
        refine hK.out _ _ (fun _=>S7.out) ?_
        clear hK K
        (try simp only [Act.put,List.setIfInBounds_toArray,List.set_cons_zero,List.set_cons_succ])
        obtain ⟨s7,t7,y7⟩:=S7.out
        have f7:w7.frozen? ⟨w.heap.size+1,1,none⟩=false:=by simp [World.frozen?,s7]
        have l7:=heap_in s7
        clear s7 y7
        refine anyN_one (i:=10) rfl (by as_aux_lemma=>kernel_rfl) (fun K hK=>?_)
        go_simp
        refine hK.out _ _ (fun h=>absurd rfl h) ?_
        clear hK K
        (try simp only [Act.put,List.setIfInBounds_toArray,List.set_cons_zero,List.set_cons_succ])
        refine anyN_done (by as_aux_lemma=>kernel_rfl) ?_ _
        go_wp2
        have BB:=hide ((AB.out.mono (show w.heap.size+1≤w9.heap.size by omega)).trans B12.out)
        refine ⟨⟨j+1,_,.slice a7 (RT.length+1) c7,RT++[((⟨tn,mp,fp⟩,gp,cp):TR)],by omega,by omega,by rw [List.length_append,HRT.out];rfl,by go_num,C12.out,G2.out.addT (r:=(⟨tn,mp,fp⟩,gp,cp)) htn PP.out.num PP.out.sz,R9.out.low BB.out (by omega),O9.out.then (BB.out.mono (Nat.le_succ _))⟩,by simp [intOf];omega⟩
      ·go_wp2_with fail
       refine (pick_any R _ 2 _ R5.out (by omega) (by omega) (by omega)).mono ?_
       rintro e w9 ⟨z9,rfl,h90,h91,hR9,hO9⟩
       have C9:=hide (C5.out.only hO9 hlow)
       have P9:=hide (P5.out.only hO9 (by omega))
       have R9:=hide hR9
       have O9:=hide (O5.out.trans hO9)
       clear hR9 hO9
       by_cases hz9:z9=0
       ·subst hz9
        go_wp2_with fail
        have SQ:Hid (∀ V:World,(∀ j,j<w9.heap.size→j≠R→V.heap[j]?=w9.heap[j]?)→V.heap[w.heap.size+1]?=some (.cells #[v0,(.slice (some ⟨gt,0,none⟩) RT.length c1)] 26 (0,0))∧V.cell? ⟨w.heap.size+1,1,none⟩=some (.slice (some ⟨gt,0,none⟩) RT.length c1)):=fun V hV=>by
         have h1:=(hV (w.heap.size+1) C9.out.lt (by omega)).trans C9.out.box
         exact ⟨h1,by simp [World.cell?,h1]⟩
        refine wp_region_N (fun V=>V.heap[w.heap.size+1]?=some (.cells #[v0,(.slice (some ⟨gt,0,none⟩) RT.length c1)] 26 (0,0))∧V.cell? ⟨w.heap.size+1,1,none⟩=some (.slice (some ⟨gt,0,none⟩) RT.length c1)) 10 (by as_aux_lemma=>kernel_rfl) ?_
        have HS:=hide (SQ.out w9.drew (fun j hj _=>rfl))
        refine anyN_take (i:=0) (v:=?_) rfl (by as_aux_lemma=>kernel_rfl) (by as_aux_lemma=>kernel_rfl) (by as_aux_lemma=>kernel_rfl) (by as_aux_lemma=>kernel_rfl) (fun _ _ _ h=>h) rfl ?_ HS.out ?_
        rotate_left
        ·(intro wz hSw;obtain ⟨s0,s1⟩:=hSw;go_simp)
         (try with_reducible rfl)
        (try simp only [Act.put,List.setIfInBounds_toArray,List.set_cons_zero,List.set_cons_succ])
        refine anyN_take (i:=1) (v:=?_) rfl (by as_aux_lemma=>kernel_rfl) (by as_aux_lemma=>kernel_rfl) (by as_aux_lemma=>kernel_rfl) (by as_aux_lemma=>kernel_rfl) (fun _ _ _ h=>h) rfl ?_ HS.out ?_
        rotate_left
        ·(intro wz hSw;obtain ⟨s0,s1⟩:=hSw;go_simp)
         (try with_reducible rfl)
        (try simp only [Act.put,List.setIfInBounds_toArray,List.set_cons_zero,List.set_cons_succ])
        refine anyN_take (i:=2) (v:=?_) rfl (by as_aux_lemma=>kernel_rfl) (by as_aux_lemma=>kernel_rfl) (by as_aux_lemma=>kernel_rfl) (by as_aux_lemma=>kernel_rfl) (fun _ _ _ h=>h) rfl ?_ HS.out ?_
        rotate_left
        ·(intro wz hSw;obtain ⟨s0,s1⟩:=hSw;go_simp)
         (try with_reducible rfl)
        (try simp only [Act.put,List.setIfInBounds_toArray,List.set_cons_zero,List.set_cons_succ])
        refine anyN_take (i:=3) (v:=?_) rfl (by as_aux_lemma=>kernel_rfl) (by as_aux_lemma=>kernel_rfl) (by as_aux_lemma=>kernel_rfl) (by as_aux_lemma=>kernel_rfl) (fun _ _ _ h=>h) rfl ?_ HS.out ?_
        rotate_left
        ·(intro wz hSw;obtain ⟨s0,s1⟩:=hSw;go_simp)
         (try with_reducible rfl)
        (try simp only [Act.put,List.setIfInBounds_toArray,List.set_cons_zero,List.set_cons_succ])
        refine anyN_take (i:=4) (v:=?_) rfl (by as_aux_lemma=>kernel_rfl) (by as_aux_lemma=>kernel_rfl) (by as_aux_lemma=>kernel_rfl) (by as_aux_lemma=>kernel_rfl) (fun _ _ _ h=>h) rfl ?_ HS.out ?_
        rotate_left
        ·(intro wz hSw;obtain ⟨s0,s1⟩:=hSw;go_simp)
         (try with_reducible rfl)
        (try simp only [Act.put,List.setIfInBounds_toArray,List.set_cons_zero,List.set_cons_succ])
        refine anyN_take (i:=5) (v:=?_) rfl (by as_aux_lemma=>kernel_rfl) (by as_aux_lemma=>kernel_rfl) (by as_aux_lemma=>kernel_rfl) (by as_aux_lemma=>kernel_rfl) (fun _ _ _ h=>h) rfl ?_ HS.out ?_
        rotate_left
        ·(intro wz hSw;obtain ⟨s0,s1⟩:=hSw;go_simp)
         (try with_reducible rfl)
        (try simp only [Act.put,List.setIfInBounds_toArray,List.set_cons_zero,List.set_cons_succ])
        refine anyN_one (i:=6) rfl (by as_aux_lemma=>kernel_rfl) (fun K hK=>?_)
        go_simp
        go_at_call 32
        refine (pick_any R _ (RT.length:Int) _ (R9.out.below (Below.refl _ _).drew lr) (by omega) (by have:=HRT.out;omega) (by omega)).mono ?_
        rintro e w6 ⟨z6,rfl,h60,h61,hR6,hO6⟩
        obtain ⟨k6,rfl⟩:∃ k6:Nat,z6=(k6:Int):=⟨z6.toNat,by omega⟩
        have hk6:k6<RT.length:=by omega
        have O6':Hid (Only R w9 w6):=(Only.of_below (Below.refl _ _).drew).trans hO6
        have C6:=hide (C9.out.only O6'.out hlow)
        have P6:=hide (P9.out.only O6'.out (by omega))
        have R6:=hide hR6
        have O6:=hide (O9.out.trans O6'.out)
        clear hR6 hO6
        have S6:=hide (SQ.out w6 (fun j hj hne=>O6'.out.block j hj hne))
        obtain ⟨gt',r6,hgt,hgl,hm6,hc0,hc1,hsl⟩:=C6.out.tgt.atk hk6
        have SL6:=hide hsl
        have M6:=hide hm6
        clear hsl hm6
        injection hgt with e1
        injection e1 with e2
        subst e2
        refine hK.out _ _ (fun _=>S6.out) ?_
        clear hK K HS
        (try simp only [Act.put,List.setIfInBounds_toArray,List.set_cons_zero,List.set_cons_succ])
        refine anyN_one (i:=7) rfl (by as_aux_lemma=>kernel_rfl) (fun K hK=>?_)
        go_simp
        refine hK.out _ _ (fun _=>S6.out) ?_
        clear hK K
        (try simp only [Act.put,List.setIfInBounds_toArray,List.set_cons_zero,List.set_cons_succ])
        refine anyN_one (i:=8) rfl (by as_aux_lemma=>kernel_rfl) (fun K hK=>?_)
        go_simp
        refine hK.out _ _ (fun _=>S6.out) ?_
        clear hK K
        (try simp only [Act.put,List.setIfInBounds_toArray,List.set_cons_zero,List.set_cons_succ])
        refine anyN_one (i:=9) rfl (by as_aux_lemma=>kernel_rfl) (fun K hK=>?_)
        go_simp
        refine hK.out _ _ (fun _=>S6.out) ?_
        clear hK K
        (try simp only [Act.put,List.setIfInBounds_toArray,List.set_cons_zero,List.set_cons_succ])
        refine anyN_one (i:=10) rfl (by as_aux_lemma=>kernel_rfl) (fun K hK=>?_)
        go_simp
        refine hK.out _ _ (fun h=>absurd rfl h) ?_
        have hnm:=(G2.out.t r6 M6.out).1
        clear hK K SQ S6 SL6 M6
        (try simp only [Act.put,List.setIfInBounds_toArray,List.set_cons_zero,List.set_cons_succ])
        refine anyN_done (by as_aux_lemma=>kernel_rfl) ?_ _
        go_wp2_with fail
        refine (l1Lit_any _ _).mono ?_
        rintro e wa ⟨rfl,hB⟩
        have Ca:=hide (C6.out.below hB)
        have Pa:=hide (P6.out.below hB lr)
        have Ra:=hide (R6.out.below hB lr)
        have Oa:=hide (O6.out.then (hB.mono O6.out.size))
        clear hB C6 P6 R6 O6
        go_wp2_with fail
        refine (l1Op_any 12 _).mono ?_
        rintro e wb ⟨rfl,hB⟩
        have Cb:=hide (Ca.out.below hB)
        have Pb:=hide (Pa.out.below hB lr)
        have Rb:=hide (Ra.out.below hB lr)
        have Ob:=hide (Oa.out.then (hB.mono Oa.out.size))
        clear hB Ca Pa Ra Oa
        go_wp2_with fail
        refine (l1Text_any R _ _ Rb.out (by omega)).mono ?_
        rintro e wc ⟨tc,rfl,htc,qc,hqc,hR,hO⟩
        have Cc:=hide (Cb.out.only hO hlow)
        have Pc:=hide (Pb.out.only hO (by omega))
        have Rc:=hide hR
        have Oc:=hide (Ob.out.trans hO)
        clear hO hR Cb Pb Rb Ob
        go_wp2_with fail
        refine (l1Lit_any tc _).mono ?_
        rintro e wd ⟨rfl,hB⟩
        have Cd:=hide (Cc.out.below hB)
        have Pd:=hide (Pc.out.below hB lr)
        have Rd:=hide (Rc.out.below hB lr)
        have Od:=hide (Oc.out.then (hB.mono Oc.out.size))
        clear hB Cc Pc Rc Oc
        go_wp2_with fail
        refine (l1Op_any 2 _).mono ?_
        rintro e we ⟨rfl,hB⟩
        have Ce:=hide (Cd.out.below hB)
        have Pe:=hide (Pd.out.below hB lr)
        have Re:=hide (Rd.out.below hB lr)
        have Oe:=hide (Od.out.then (hB.mono Od.out.size))
        clear hB Cd Pd Rd Od
        go_wp2_with fail
        refine (pick_any R _ 9 _ Re.out (by omega) (by omega) (by omega)).mono ?_
        rintro e wf ⟨zf,rfl,hf0,hf1,hR,hO⟩
        have Cf:=hide (Ce.out.only hO hlow)
        have Pf:=hide (Pe.out.only hO (by omega))
        have Rf:=hide hR
        have Of:=hide (Oe.out.trans hO)
        clear hO hR Ce Pe Re Oe
        go_wp2_with fail
        refine (l1OpN_any 3 _ _).mono ?_
        rintro e wg ⟨rfl,hB⟩
        have Cg:=hide (Cf.out.below hB)
        have Pg:=hide (Pf.out.below hB lr)
        have Rg:=hide (Rf.out.below hB lr)
        have Og:=hide (Of.out.then (hB.mono Of.out.size))
        clear hB Cf Pf Rf Of
        go_wp2_with fail
        refine (l1Op_any 15 _).mono ?_
        rintro e wh ⟨rfl,hB⟩
        have Ch:=hide (Cg.out.below hB)
        have Ph:=hide (Pg.out.below hB lr)
        have Rh:=hide (Rg.out.below hB lr)
        have Oh:=hide (Og.out.then (hB.mono Og.out.size))
        clear hB Cg Pg Rg Og
        have kh:=Ph.out.blk.c0
        have zh:=Ph.out.blk.fz 0
        have lh:=Ph.out.blk.lt
        have P10:=hide (Ph.out.six (fun r hr=>Ch.out.tgt.ltg r hr) (by have:=Ch.out.lt;omega) r6.1.name tc (1+zf) (hnm) (by omega))
        have hzs:(wh.setCell ⟨w3.heap.size,0,none⟩ (.slice (some ⟨wh.heap.size,0,none⟩) 6 6)).heap.size=wh.heap.size:=by simp
        have lo10:=Ph.out.lo
        have Ba:=hide (((Below.refl w3.heap.size wh).setCell (p:=⟨w3.heap.size,0,none⟩) lr (.slice (some ⟨wh.heap.size,0,none⟩) 6 6)).alloc (by rw [hzs];omega) (.cells (sixC r6.1.name tc (1+zf)) 129))
        have C10:=hide ((Ch.out.putP Ph.out.blk Ph.out.lo (.slice (some ⟨wh.heap.size,0,none⟩) 6 6)).below ((Below.refl _ _).alloc lr (.cells (sixC r6.1.name tc (1+zf)) 129)))
        have R10:=hide (Rh.out.low Ba.out (by omega))
        have O10:=hide (Oh.out.then (Ba.out.mono (by omega)))
        clear Ba Ph Ch Rh Oh hzs
        go_wp2_with fail
        generalize (wh.setCell ⟨w3.heap.size,0,none⟩ (.slice (some ⟨wh.heap.size,0,none⟩) 6 6)).alloc (.cells (sixC r6.1.name tc (1+zf)) 129)=W10 at P10 C10 R10 O10 ⊢
        clear kh zh lh lo10
        obtain ⟨gp,cp,mp,fp,PP⟩:∃ gp cp mp fp,Hid (PrG (w.heap.size+2) W10 RT w3.heap.size gp cp mp fp):=⟨_,_,_,_,P10.out⟩
        clear P10
        have SQ:Hid (∀ V:World,(∀ j,j<W10.heap.size→some j≠(Value.slice (some ⟨gt,0,none⟩) RT.length c1).ownBlock→V.heap[j]?=W10.heap[j]?)→V.heap[w.heap.size+1]?=some (.cells #[v0,.slice (some ⟨gt,0,none⟩) RT.length c1] 26 (0,0))∧V.cell? ⟨w.heap.size+1,1,none⟩=some (.slice (some ⟨gt,0,none⟩) RT.length c1)∧V.cell? ⟨w3.heap.size,0,none⟩=some (.slice (some ⟨gp,0,none⟩) mp cp)):=fun V hV=>by
         have h1:=(hV (w.heap.size+1) C10.out.lt fun e=>by have:=(C10.out.tgt.own.lt _ e.symm).1;omega).trans C10.out.box
         have h2:PB V w3.heap.size (.slice (some ⟨gp,0,none⟩) mp cp):=(hV w3.heap.size PP.out.blk.lt fun e=>by
          obtain ⟨cur,hcur⟩:=C10.out.tgt.type _ e.symm
          have h3:=PP.out.blk.symm.trans hcur
          cases h3).trans PP.out.blk
         exact ⟨h1,by simp [World.cell?,h1],h2.c0⟩
        refine wp_region_N (fun V=>V.heap[w.heap.size+1]?=some (.cells #[v0,.slice (some ⟨gt,0,none⟩) RT.length c1] 26 (0,0))∧V.cell? ⟨w.heap.size+1,1,none⟩=some (.slice (some ⟨gt,0,none⟩) RT.length c1)∧V.cell? ⟨w3.heap.size,0,none⟩=some (.slice (some ⟨gp,0,none⟩) mp cp)) 10 (by as_aux_lemma=>kernel_rfl) ?_
        have HS:=hide (SQ.out W10.drew (fun j hj _=>rfl))
        refine anyN_take (i:=0) (v:=?_) rfl (by as_aux_lemma=>kernel_rfl) (by as_aux_lemma=>kernel_rfl) (by as_aux_lemma=>kernel_rfl) (by as_aux_lemma=>kernel_rfl) (fun _ _ _ h=>h) rfl ?_ HS.out ?_
        rotate_left
        ·(intro wz hSw;obtain ⟨s0,s1,s2⟩:=hSw;go_simp)
         (try with_reducible rfl)
        (try simp only [Act.put,List.setIfInBounds_toArray,List.set_cons_zero,List.set_cons_succ])
        refine anyN_take (i:=1) (v:=?_) rfl (by as_aux_lemma=>kernel_rfl) (by as_aux_lemma=>kernel_rfl) (by as_aux_lemma=>kernel_rfl) (by as_aux_lemma=>kernel_rfl) (fun _ _ _ h=>h) rfl ?_ HS.out ?_
        rotate_left
        ·(intro wz hSw;obtain ⟨s0,s1,s2⟩:=hSw;go_simp)
         (try with_reducible rfl)
        (try simp only [Act.put,List.setIfInBounds_toArray,List.set_cons_zero,List.set_cons_succ])
        refine anyN_take (i:=2) (v:=?_) rfl (by as_aux_lemma=>kernel_rfl) (by as_aux_lemma=>kernel_rfl) (by as_aux_lemma=>kernel_rfl) (by as_aux_lemma=>kernel_rfl) (fun _ _ _ h=>h) rfl ?_ HS.out ?_
        rotate_left
        ·(intro wz hSw;obtain ⟨s0,s1,s2⟩:=hSw;go_simp)
         (try with_reducible rfl)
        (try simp only [Act.put,List.setIfInBounds_toArray,List.set_cons_zero,List.set_cons_succ])
        refine anyN_take (i:=5) (v:=?_) rfl (by as_aux_lemma=>kernel_rfl) (by as_aux_lemma=>kernel_rfl) (by as_aux_lemma=>kernel_rfl) (by as_aux_lemma=>kernel_rfl) (fun _ _ _ h=>h) rfl ?_ HS.out ?_
        rotate_left
        ·(intro wz hSw;obtain ⟨s0,s1,s2⟩:=hSw;go_simp)
         (try with_reducible rfl)
        (try simp only [Act.put,List.setIfInBounds_toArray,List.set_cons_zero,List.set_cons_succ])
        refine anyN_one (i:=3) rfl (by as_aux_lemma=>kernel_rfl) (fun K hK=>?_)
        go_simp
        go_at_call 89
        refine (l1Dec_small j (by omega) _).mono ?_
        rintro e wt ⟨rfl,hBt⟩
        have BT:Hid (Below W10.heap.size W10 wt):=(Below.refl W10.heap.size W10).drew.trans hBt
        clear hBt
        refine hK.out _ _ (fun _=>SQ.out _ (fun j hj _=>BT.out.block j hj)) ?_
        clear hK K HS
        (try simp only [Act.put,List.setIfInBounds_toArray,List.set_cons_zero,List.set_cons_succ])
        refine anyN_one (i:=4) rfl (by as_aux_lemma=>kernel_rfl) (fun K hK=>?_)
        go_simp
        refine hK.out _ _ (fun _=>SQ.out _ (fun j hj _=>BT.out.block j hj)) ?_
        clear hK K
        (try simp only [Act.put,List.setIfInBounds_toArray,List.set_cons_zero,List.set_cons_succ])
        have htn:((⟨#[116]⟩:ByteArray)++⟨#[dig j]⟩).size≤5000:=by
         have e1:(⟨#[116]⟩:ByteArray).size=1:=rfl
         have e2:(⟨#[dig j]⟩:ByteArray).size=1:=rfl
         simp only [ByteArray.size_append,e1,e2]
         omega
        generalize (⟨#[116]⟩:ByteArray)++⟨#[dig j]⟩=tn at htn ⊢
        refine anyN_one (i:=6) rfl (by as_aux_lemma=>kernel_rfl) (fun K hK=>?_)
        go_simp
        refine hK.out _ _ (fun _=>SQ.out _ (fun j hj _=>BT.out.block j hj)) ?_
        clear hK K
        (try simp only [Act.put,List.setIfInBounds_toArray,List.set_cons_zero,List.set_cons_succ])
        refine anyN_one (i:=7) rfl (by as_aux_lemma=>kernel_rfl) (fun K hK=>?_)
        go_simp
        have hbx:=C10.out.lt
        have hzt:=BT.out.size
        have AB:=hide (BT.out.alloc (by omega) (.cells #[.string tn,.slice (some ⟨gp,0,none⟩) mp cp] 80))
        have C11:=hide (C10.out.below AB.out)
        have P11:=hide (PP.out.below AB.out lr)
        have hz6:=AB.out.size
        refine hK.out _ _ (fun _=>SQ.out _ (fun j hj _=>AB.out.block j hj)) ?_
        clear hK K
        (try simp only [Act.put,List.setIfInBounds_toArray,List.set_cons_zero,List.set_cons_succ])
        refine anyN_one (i:=8) rfl (by as_aux_lemma=>kernel_rfl) (fun K hK=>?_)
        refine step_append_own_at rfl (.tmp 101) (.tmp 107) 24 rfl (w.heap.size+2) 80 i1' (.agg #[.string ⟨#[]⟩,.slice none 0 0]) 2 40 Tryz.underlying24 hj hz0 hz1 hz2 rfl (by decide) (.slice (some ⟨gt,0,none⟩) RT.length c1) RT.length (RT.flatMap tgtV) (by simp [Act.eval]) C11.out.tgt.own ⟨wt.heap.size,0,none⟩ 1 1 (tgtV (⟨tn,mp,fp⟩,gp,cp)) (by simp [Act.eval]) rfl (fun j u hu=>two_new wt _ _ _ j u hu) (by simp [tgtV,Value.oneCell']) (by unfold maxLen;omega) (by omega) (by omega) ?_
        intro v' w7 hown hgrow _
        obtain ⟨a7,c7,rfl⟩:=own_slice hown
        have S7:=hide (SQ.out w7 (fun j hj hne=>(hgrow.block j (Nat.lt_of_lt_of_le hj AB.out.size) hne).trans (AB.out.block j hj)))
        obtain ⟨c8,b8⟩:=C11.out.addT (x:=⟨tn,mp,fp⟩) (g:=gp) (c:=cp) P11.out.new P11.out.own hown hgrow
        have C12:=hide c8
        have B12:=hide b8
        clear hown hgrow c8 b8
        refine hK.out _ _ (fun _=>S7.out) ?_
        clear hK K
        (try simp only [Act.put,List.setIfInBounds_toArray,List.set_cons_zero,List.set_cons_succ])
        refine anyN_one (i:=9) rfl (by as_aux_lemma=>kernel_rfl) (fun K hK=>?_)
        go_simp
        refine hK.out _ _ (fun _=>S7.out) ?_
        clear hK K
        (try simp only [Act.put,List.setIfInBounds_toArray,List.set_cons_zero,List.set_cons_succ])
        obtain ⟨s7,t7,y7⟩:=S7.out
        have f7:w7.frozen? ⟨w.heap.size+1,1,none⟩=false:=by simp [World.frozen?,s7]
        have l7:=heap_in s7
        clear s7 y7
        refine anyN_one (i:=10) rfl (by as_aux_lemma=>kernel_rfl) (fun K hK=>?_)
        go_simp
        refine hK.out _ _ (fun h=>absurd rfl h) ?_
        clear hK K
        (try simp only [Act.put,List.setIfInBounds_toArray,List.set_cons_zero,List.set_cons_succ])
        refine anyN_done (by as_aux_lemma=>kernel_rfl) ?_ _
        go_wp2
        have BB:=hide ((AB.out.mono (show w.heap.size+1≤W10.heap.size by omega)).trans B12.out)
        refine ⟨⟨j+1,_,.slice a7 (RT.length+1) c7,RT++[((⟨tn,mp,fp⟩,gp,cp):TR)],by omega,by omega,by rw [List.length_append,HRT.out];rfl,by go_num,C12.out,G2.out.addT (r:=(⟨tn,mp,fp⟩,gp,cp)) htn PP.out.num PP.out.sz,R10.out.low BB.out (by omega),O10.out.then (BB.out.mono (Nat.le_succ _))⟩,by simp [intOf];omega⟩
       ·go_wp2_with fail
        obtain ⟨gp,cp,mp,fp,PP⟩:∃ gp cp mp fp,Hid (PrG (w.heap.size+2) w9 RT w3.heap.size gp cp mp fp):=⟨_,_,_,_,P9.out⟩
        clear P9
        have SQ:Hid (∀ V:World,(∀ j,j<w9.heap.size→some j≠(Value.slice (some ⟨gt,0,none⟩) RT.length c1).ownBlock→V.heap[j]?=w9.heap[j]?)→V.heap[w.heap.size+1]?=some (.cells #[v0,.slice (some ⟨gt,0,none⟩) RT.length c1] 26 (0,0))∧V.cell? ⟨w.heap.size+1,1,none⟩=some (.slice (some ⟨gt,0,none⟩) RT.length c1)∧V.cell? ⟨w3.heap.size,0,none⟩=some (.slice (some ⟨gp,0,none⟩) mp cp)):=fun V hV=>by
         have h1:=(hV (w.heap.size+1) C9.out.lt fun e=>by have:=(C9.out.tgt.own.lt _ e.symm).1;omega).trans C9.out.box
         have h2:PB V w3.heap.size (.slice (some ⟨gp,0,none⟩) mp cp):=(hV w3.heap.size PP.out.blk.lt fun e=>by
          obtain ⟨cur,hcur⟩:=C9.out.tgt.type _ e.symm
          have h3:=PP.out.blk.symm.trans hcur
          cases h3).trans PP.out.blk
         exact ⟨h1,by simp [World.cell?,h1],h2.c0⟩
        refine wp_region_N (fun V=>V.heap[w.heap.size+1]?=some (.cells #[v0,.slice (some ⟨gt,0,none⟩) RT.length c1] 26 (0,0))∧V.cell? ⟨w.heap.size+1,1,none⟩=some (.slice (some ⟨gt,0,none⟩) RT.length c1)∧V.cell? ⟨w3.heap.size,0,none⟩=some (.slice (some ⟨gp,0,none⟩) mp cp)) 10 (by as_aux_lemma=>kernel_rfl) ?_
        have HS:=hide (SQ.out w9.drew (fun j hj _=>rfl))
        refine anyN_take (i:=0) (v:=?_) rfl (by as_aux_lemma=>kernel_rfl) (by as_aux_lemma=>kernel_rfl) (by as_aux_lemma=>kernel_rfl) (by as_aux_lemma=>kernel_rfl) (fun _ _ _ h=>h) rfl ?_ HS.out ?_
        rotate_left
        ·(intro wz hSw;obtain ⟨s0,s1,s2⟩:=hSw;go_simp)
         (try with_reducible rfl)
        (try simp only [Act.put,List.setIfInBounds_toArray,List.set_cons_zero,List.set_cons_succ])
        refine anyN_take (i:=1) (v:=?_) rfl (by as_aux_lemma=>kernel_rfl) (by as_aux_lemma=>kernel_rfl) (by as_aux_lemma=>kernel_rfl) (by as_aux_lemma=>kernel_rfl) (fun _ _ _ h=>h) rfl ?_ HS.out ?_
        rotate_left
        ·(intro wz hSw;obtain ⟨s0,s1,s2⟩:=hSw;go_simp)
         (try with_reducible rfl)
        (try simp only [Act.put,List.setIfInBounds_toArray,List.set_cons_zero,List.set_cons_succ])
        refine anyN_take (i:=2) (v:=?_) rfl (by as_aux_lemma=>kernel_rfl) (by as_aux_lemma=>kernel_rfl) (by as_aux_lemma=>kernel_rfl) (by as_aux_lemma=>kernel_rfl) (fun _ _ _ h=>h) rfl ?_ HS.out ?_
        rotate_left
        ·(intro wz hSw;obtain ⟨s0,s1,s2⟩:=hSw;go_simp)
         (try with_reducible rfl)
        (try simp only [Act.put,List.setIfInBounds_toArray,List.set_cons_zero,List.set_cons_succ])
        refine anyN_take (i:=5) (v:=?_) rfl (by as_aux_lemma=>kernel_rfl) (by as_aux_lemma=>kernel_rfl) (by as_aux_lemma=>kernel_rfl) (by as_aux_lemma=>kernel_rfl) (fun _ _ _ h=>h) rfl ?_ HS.out ?_
        rotate_left
        ·(intro wz hSw;obtain ⟨s0,s1,s2⟩:=hSw;go_simp)
         (try with_reducible rfl)
        (try simp only [Act.put,List.setIfInBounds_toArray,List.set_cons_zero,List.set_cons_succ])
        refine anyN_one (i:=3) rfl (by as_aux_lemma=>kernel_rfl) (fun K hK=>?_)
        go_simp
        go_at_call 89
        refine (l1Dec_small j (by omega) _).mono ?_
        rintro e wt ⟨rfl,hBt⟩
        have BT:Hid (Below w9.heap.size w9 wt):=(Below.refl w9.heap.size w9).drew.trans hBt
        clear hBt
        refine hK.out _ _ (fun _=>SQ.out _ (fun j hj _=>BT.out.block j hj)) ?_
        clear hK K HS
        (try simp only [Act.put,List.setIfInBounds_toArray,List.set_cons_zero,List.set_cons_succ])
        refine anyN_one (i:=4) rfl (by as_aux_lemma=>kernel_rfl) (fun K hK=>?_)
        go_simp
        refine hK.out _ _ (fun _=>SQ.out _ (fun j hj _=>BT.out.block j hj)) ?_
        clear hK K
        (try simp only [Act.put,List.setIfInBounds_toArray,List.set_cons_zero,List.set_cons_succ])
        have htn:((⟨#[116]⟩:ByteArray)++⟨#[dig j]⟩).size≤5000:=by
         have e1:(⟨#[116]⟩:ByteArray).size=1:=rfl
         have e2:(⟨#[dig j]⟩:ByteArray).size=1:=rfl
         simp only [ByteArray.size_append,e1,e2]
         omega
        generalize (⟨#[116]⟩:ByteArray)++⟨#[dig j]⟩=tn at htn ⊢
        refine anyN_one (i:=6) rfl (by as_aux_lemma=>kernel_rfl) (fun K hK=>?_)
        go_simp
        refine hK.out _ _ (fun _=>SQ.out _ (fun j hj _=>BT.out.block j hj)) ?_
        clear hK K
        (try simp only [Act.put,List.setIfInBounds_toArray,List.set_cons_zero,List.set_cons_succ])
        refine anyN_one (i:=7) rfl (by as_aux_lemma=>kernel_rfl) (fun K hK=>?_)
        go_simp
        have hbx:=C9.out.lt
        have hzt:=BT.out.size
        have AB:=hide (BT.out.alloc (by omega) (.cells #[.string tn,.slice (some ⟨gp,0,none⟩) mp cp] 80))
        have C11:=hide (C9.out.below AB.out)
        have P11:=hide (PP.out.below AB.out lr)
        have hz6:=AB.out.size
        refine hK.out _ _ (fun _=>SQ.out _ (fun j hj _=>AB.out.block j hj)) ?_
        clear hK K
        (try simp only [Act.put,List.setIfInBounds_toArray,List.set_cons_zero,List.set_cons_succ])
        refine anyN_one (i:=8) rfl (by as_aux_lemma=>kernel_rfl) (fun K hK=>?_)
        refine step_append_own_at rfl (.tmp 101) (.tmp 107) 24 rfl (w.heap.size+2) 80 i1' (.agg #[.string ⟨#[]⟩,.slice none 0 0]) 2 40 Tryz.underlying24 hj hz0 hz1 hz2 rfl (by decide) (.slice (some ⟨gt,0,none⟩) RT.length c1) RT.length (RT.flatMap tgtV) (by simp [Act.eval]) C11.out.tgt.own ⟨wt.heap.size,0,none⟩ 1 1 (tgtV (⟨tn,mp,fp⟩,gp,cp)) (by simp [Act.eval]) rfl (fun j u hu=>two_new wt _ _ _ j u hu) (by simp [tgtV,Value.oneCell']) (by unfold maxLen;omega) (by omega) (by omega) ?_
        intro v' w7 hown hgrow _
        obtain ⟨a7,c7,rfl⟩:=own_slice hown
        have S7:=hide (SQ.out w7 (fun j hj hne=>(hgrow.block j (Nat.lt_of_lt_of_le hj AB.out.size) hne).trans (AB.out.block j hj)))
        obtain ⟨c8,b8⟩:=C11.out.addT (x:=⟨tn,mp,fp⟩) (g:=gp) (c:=cp) P11.out.new P11.out.own hown hgrow
        have C12:=hide c8
        have B12:=hide b8
        clear hown hgrow c8 b8
        refine hK.out _ _ (fun _=>S7.out) ?_
        clear hK K
        (try simp only [Act.put,List.setIfInBounds_toArray,List.set_cons_zero,List.set_cons_succ])
        refine anyN_one (i:=9) rfl (by as_aux_lemma=>kernel_rfl) (fun K hK=>?_)
        go_simp
        refine hK.out _ _ (fun _=>S7.out) ?_
        clear hK K
        (try simp only [Act.put,List.setIfInBounds_toArray,List.set_cons_zero,List.set_cons_succ])
        obtain ⟨s7,t7,y7⟩:=S7.out
        have f7:w7.frozen? ⟨w.heap.size+1,1,none⟩=false:=by simp [World.frozen?,s7]
        have l7:=heap_in s7
        clear s7 y7
        refine anyN_one (i:=10) rfl (by as_aux_lemma=>kernel_rfl) (fun K hK=>?_)
        go_simp
        refine hK.out _ _ (fun h=>absurd rfl h) ?_
        clear hK K
        (try simp only [Act.put,List.setIfInBounds_toArray,List.set_cons_zero,List.set_cons_succ])
        refine anyN_done (by as_aux_lemma=>kernel_rfl) ?_ _
        go_wp2
        have BB:=hide ((AB.out.mono (show w.heap.size+1≤w9.heap.size by omega)).trans B12.out)
        refine ⟨⟨j+1,_,.slice a7 (RT.length+1) c7,RT++[((⟨tn,mp,fp⟩,gp,cp):TR)],by omega,by omega,by rw [List.length_append,HRT.out];rfl,by go_num,C12.out,G2.out.addT (r:=(⟨tn,mp,fp⟩,gp,cp)) htn PP.out.num PP.out.sz,R9.out.low BB.out (by omega),O9.out.then (BB.out.mono (Nat.le_succ _))⟩,by simp [intOf];omega⟩
     ·go_wp2_with fail
      generalize w3.alloc (.cells #[.slice (some ⟨g,0,none⟩) L.length c] 31)=W4 at P4 C4 R4 O4 ⊢
      clear B4
      refine (pick_any R _ 2 _ R4.out (by omega) (by omega) (by omega)).mono ?_
      rintro e w9 ⟨z9,rfl,h90,h91,hR9,hO9⟩
      have C9:=hide (C4.out.only hO9 hlow)
      have P9:=hide (P4.out.only hO9 (by omega))
      have R9:=hide hR9
      have O9:=hide (O4.out.trans hO9)
      clear hR9 hO9
      by_cases hz9:z9=0
      ·subst hz9
       go_wp2_with fail
       refine (l1Lit_any _ _).mono ?_
       rintro e wa ⟨rfl,hB⟩
       have Ca:=hide (C9.out.below hB)
       have Pa:=hide (P9.out.below hB lr)
       have Ra:=hide (R9.out.below hB lr)
       have Oa:=hide (O9.out.then (hB.mono O9.out.size))
       clear hB C9 P9 R9 O9
       go_wp2_with fail
       refine (l1Op_any 12 _).mono ?_
       rintro e wb ⟨rfl,hB⟩
       have Cb:=hide (Ca.out.below hB)
       have Pb:=hide (Pa.out.below hB lr)
       have Rb:=hide (Ra.out.below hB lr)
       have Ob:=hide (Oa.out.then (hB.mono Oa.out.size))
       clear hB Ca Pa Ra Oa
       go_wp2_with fail
       refine (l1Text_any R _ _ Rb.out (by omega)).mono ?_
       rintro e wc ⟨tc,rfl,htc,qc,hqc,hR,hO⟩
       have Cc:=hide (Cb.out.only hO hlow)
       have Pc:=hide (Pb.out.only hO (by omega))
       have Rc:=hide hR
       have Oc:=hide (Ob.out.trans hO)
       clear hO hR Cb Pb Rb Ob
       go_wp2_with fail
       refine (l1Lit_any tc _).mono ?_
       rintro e wd ⟨rfl,hB⟩
       have Cd:=hide (Cc.out.below hB)
       have Pd:=hide (Pc.out.below hB lr)
       have Rd:=hide (Rc.out.below hB lr)
       have Od:=hide (Oc.out.then (hB.mono Oc.out.size))
       clear hB Cc Pc Rc Oc
       go_wp2_with fail
       refine (l1Op_any 2 _).mono ?_
       rintro e we ⟨rfl,hB⟩
       have Ce:=hide (Cd.out.below hB)
       have Pe:=hide (Pd.out.below hB lr)
       have Re:=hide (Rd.out.below hB lr)
       have Oe:=hide (Od.out.then (hB.mono Od.out.size))
       clear hB Cd Pd Rd Od
       go_wp2_with fail
       refine (pick_any R _ 9 _ Re.out (by omega) (by omega) (by omega)).mono ?_
       rintro e wf ⟨zf,rfl,hf0,hf1,hR,hO⟩
       have Cf:=hide (Ce.out.only hO hlow)
       have Pf:=hide (Pe.out.only hO (by omega))
       have Rf:=hide hR
       have Of:=hide (Oe.out.trans hO)
       clear hO hR Ce Pe Re Oe
       go_wp2_with fail
       refine (l1OpN_any 3 _ _).mono ?_
       rintro e wg ⟨rfl,hB⟩
       have Cg:=hide (Cf.out.below hB)
       have Pg:=hide (Pf.out.below hB lr)
       have Rg:=hide (Rf.out.below hB lr)
       have Og:=hide (Of.out.then (hB.mono Of.out.size))
       clear hB Cf Pf Rf Of
       go_wp2_with fail
       refine (l1Op_any 15 _).mono ?_
       rintro e wh ⟨rfl,hB⟩
       have Ch:=hide (Cg.out.below hB)
       have Ph:=hide (Pg.out.below hB lr)
       have Rh:=hide (Rg.out.below hB lr)
       have Oh:=hide (Og.out.then (hB.mono Og.out.size))
       clear hB Cg Pg Rg Og
       have kh:=Ph.out.blk.c0
       have zh:=Ph.out.blk.fz 0
       have lh:=Ph.out.blk.lt
       have P10:=hide (Ph.out.six (fun r hr=>Ch.out.tgt.ltg r hr) (by have:=Ch.out.lt;omega) ⟨#[97]⟩ tc (1+zf) (Nat.le_of_ble_eq_true rfl) (by omega))
       have hzs:(wh.setCell ⟨w3.heap.size,0,none⟩ (.slice (some ⟨wh.heap.size,0,none⟩) 6 6)).heap.size=wh.heap.size:=by simp
       have lo10:=Ph.out.lo
       have Ba:=hide (((Below.refl w3.heap.size wh).setCell (p:=⟨w3.heap.size,0,none⟩) lr (.slice (some ⟨wh.heap.size,0,none⟩) 6 6)).alloc (by rw [hzs];omega) (.cells (sixC ⟨#[97]⟩ tc (1+zf)) 129))
       have C10:=hide ((Ch.out.putP Ph.out.blk Ph.out.lo (.slice (some ⟨wh.heap.size,0,none⟩) 6 6)).below ((Below.refl _ _).alloc lr (.cells (sixC ⟨#[97]⟩ tc (1+zf)) 129)))
       have R10:=hide (Rh.out.low Ba.out (by omega))
       have O10:=hide (Oh.out.then (Ba.out.mono (by omega)))
       clear Ba Ph Ch Rh Oh hzs
       go_wp2_with fail
       generalize (wh.setCell ⟨w3.heap.size,0,none⟩ (.slice (some ⟨wh.heap.size,0,none⟩) 6 6)).alloc (.cells (sixC ⟨#[97]⟩ tc (1+zf)) 129)=W10 at P10 C10 R10 O10 ⊢
       clear kh zh lh lo10
       obtain ⟨gp,cp,mp,fp,PP⟩:∃ gp cp mp fp,Hid (PrG (w.heap.size+2) W10 RT w3.heap.size gp cp mp fp):=⟨_,_,_,_,P10.out⟩
       clear P10
       have SQ:Hid (∀ V:World,(∀ j,j<W10.heap.size→some j≠(Value.slice a1 RT.length c1).ownBlock→V.heap[j]?=W10.heap[j]?)→V.heap[w.heap.size+1]?=some (.cells #[v0,.slice a1 RT.length c1] 26 (0,0))∧V.cell? ⟨w.heap.size+1,1,none⟩=some (.slice a1 RT.length c1)∧V.cell? ⟨w3.heap.size,0,none⟩=some (.slice (some ⟨gp,0,none⟩) mp cp)):=fun V hV=>by
        have h1:=(hV (w.heap.size+1) C10.out.lt fun e=>by have:=(C10.out.tgt.own.lt _ e.symm).1;omega).trans C10.out.box
        have h2:PB V w3.heap.size (.slice (some ⟨gp,0,none⟩) mp cp):=(hV w3.heap.size PP.out.blk.lt fun e=>by
         obtain ⟨cur,hcur⟩:=C10.out.tgt.type _ e.symm
         have h3:=PP.out.blk.symm.trans hcur
         cases h3).trans PP.out.blk
        exact ⟨h1,by simp [World.cell?,h1],h2.c0⟩
       refine wp_region_N (fun V=>V.heap[w.heap.size+1]?=some (.cells #[v0,.slice a1 RT.length c1] 26 (0,0))∧V.cell? ⟨w.heap.size+1,1,none⟩=some (.slice a1 RT.length c1)∧V.cell? ⟨w3.heap.size,0,none⟩=some (.slice (some ⟨gp,0,none⟩) mp cp)) 10 (by as_aux_lemma=>kernel_rfl) ?_
       have HS:=hide (SQ.out W10.drew (fun j hj _=>rfl))
       refine anyN_take (i:=0) (v:=?_) rfl (by as_aux_lemma=>kernel_rfl) (by as_aux_lemma=>kernel_rfl) (by as_aux_lemma=>kernel_rfl) (by as_aux_lemma=>kernel_rfl) (fun _ _ _ h=>h) rfl ?_ HS.out ?_
       rotate_left
       ·(intro wz hSw;obtain ⟨s0,s1,s2⟩:=hSw;go_simp)
        (try with_reducible rfl)
       (try simp only [Act.put,List.setIfInBounds_toArray,List.set_cons_zero,List.set_cons_succ])
       refine anyN_take (i:=1) (v:=?_) rfl (by as_aux_lemma=>kernel_rfl) (by as_aux_lemma=>kernel_rfl) (by as_aux_lemma=>kernel_rfl) (by as_aux_lemma=>kernel_rfl) (fun _ _ _ h=>h) rfl ?_ HS.out ?_
       rotate_left
       ·(intro wz hSw;obtain ⟨s0,s1,s2⟩:=hSw;go_simp)
        (try with_reducible rfl)
       (try simp only [Act.put,List.setIfInBounds_toArray,List.set_cons_zero,List.set_cons_succ])
       refine anyN_take (i:=2) (v:=?_) rfl (by as_aux_lemma=>kernel_rfl) (by as_aux_lemma=>kernel_rfl) (by as_aux_lemma=>kernel_rfl) (by as_aux_lemma=>kernel_rfl) (fun _ _ _ h=>h) rfl ?_ HS.out ?_
       rotate_left
       ·(intro wz hSw;obtain ⟨s0,s1,s2⟩:=hSw;go_simp)
        (try with_reducible rfl)
       (try simp only [Act.put,List.setIfInBounds_toArray,List.set_cons_zero,List.set_cons_succ])
       refine anyN_take (i:=5) (v:=?_) rfl (by as_aux_lemma=>kernel_rfl) (by as_aux_lemma=>kernel_rfl) (by as_aux_lemma=>kernel_rfl) (by as_aux_lemma=>kernel_rfl) (fun _ _ _ h=>h) rfl ?_ HS.out ?_
       rotate_left
       ·(intro wz hSw;obtain ⟨s0,s1,s2⟩:=hSw;go_simp)
        (try with_reducible rfl)
       (try simp only [Act.put,List.setIfInBounds_toArray,List.set_cons_zero,List.set_cons_succ])
       refine anyN_one (i:=3) rfl (by as_aux_lemma=>kernel_rfl) (fun K hK=>?_)
       go_simp
       go_at_call 89
       refine (l1Dec_small j (by omega) _).mono ?_
       rintro e wt ⟨rfl,hBt⟩
       have BT:Hid (Below W10.heap.size W10 wt):=(Below.refl W10.heap.size W10).drew.trans hBt
       clear hBt
       refine hK.out _ _ (fun _=>SQ.out _ (fun j hj _=>BT.out.block j hj)) ?_
       clear hK K HS
       (try simp only [Act.put,List.setIfInBounds_toArray,List.set_cons_zero,List.set_cons_succ])
       refine anyN_one (i:=4) rfl (by as_aux_lemma=>kernel_rfl) (fun K hK=>?_)
       go_simp
       refine hK.out _ _ (fun _=>SQ.out _ (fun j hj _=>BT.out.block j hj)) ?_
       clear hK K
       (try simp only [Act.put,List.setIfInBounds_toArray,List.set_cons_zero,List.set_cons_succ])
       have htn:((⟨#[116]⟩:ByteArray)++⟨#[dig j]⟩).size≤5000:=by
        have e1:(⟨#[116]⟩:ByteArray).size=1:=rfl
        have e2:(⟨#[dig j]⟩:ByteArray).size=1:=rfl
        simp only [ByteArray.size_append,e1,e2]
        omega
       generalize (⟨#[116]⟩:ByteArray)++⟨#[dig j]⟩=tn at htn ⊢
       refine anyN_one (i:=6) rfl (by as_aux_lemma=>kernel_rfl) (fun K hK=>?_)
       go_simp
       refine hK.out _ _ (fun _=>SQ.out _ (fun j hj _=>BT.out.block j hj)) ?_
       clear hK K
       (try simp only [Act.put,List.setIfInBounds_toArray,List.set_cons_zero,List.set_cons_succ])
       refine anyN_one (i:=7) rfl (by as_aux_lemma=>kernel_rfl) (fun K hK=>?_)
       go_simp
       have hbx:=C10.out.lt
       have hzt:=BT.out.size
       have AB:=hide (BT.out.alloc (by omega) (.cells #[.string tn,.slice (some ⟨gp,0,none⟩) mp cp] 80))
       have C11:=hide (C10.out.below AB.out)
       have P11:=hide (PP.out.below AB.out lr)
       have hz6:=AB.out.size
       refine hK.out _ _ (fun _=>SQ.out _ (fun j hj _=>AB.out.block j hj)) ?_
       clear hK K
       (try simp only [Act.put,List.setIfInBounds_toArray,List.set_cons_zero,List.set_cons_succ])
       refine anyN_one (i:=8) rfl (by as_aux_lemma=>kernel_rfl) (fun K hK=>?_)
       refine step_append_own_at rfl (.tmp 101) (.tmp 107) 24 rfl (w.heap.size+2) 80 i1' (.agg #[.string ⟨#[]⟩,.slice none 0 0]) 2 40 Tryz.underlying24 hj hz0 hz1 hz2 rfl (by decide) (.slice a1 RT.length c1) RT.length (RT.flatMap tgtV) (by simp [Act.eval]) C11.out.tgt.own ⟨wt.heap.size,0,none⟩ 1 1 (tgtV (⟨tn,mp,fp⟩,gp,cp)) (by simp [Act.eval]) rfl (fun j u hu=>two_new wt _ _ _ j u hu) (by simp [tgtV,Value.oneCell']) (by unfold maxLen;omega) (by omega) (by omega) ?_
       intro v' w7 hown hgrow _
       obtain ⟨a7,c7,rfl⟩:=own_slice hown
       have S7:=hide (SQ.out w7 (fun j hj hne=>(hgrow.block j (Nat.lt_of_lt_of_le hj AB.out.size) hne).trans (AB.out.block j hj)))
       obtain ⟨c8,b8⟩:=C11.out.addT (x:=⟨tn,mp,fp⟩) (g:=gp) (c:=cp) P11.out.new P11.out.own hown hgrow
       have C12:=hide c8
       have B12:=hide b8
       clear hown hgrow c8 b8
       refine hK.out _ _ (fun _=>S7.out) ?_
       clear hK K
       (try simp only [Act.put,List.setIfInBounds_toArray,List.set_cons_zero,List.set_cons_succ])
       refine anyN_one (i:=9) rfl (by as_aux_lemma=>kernel_rfl) (fun K hK=>?_)
       go_simp
       refine hK.out _ _ (fun _=>S7.out) ?_
       clear hK K
       (try simp only [Act.put,List.setIfInBounds_toArray,List.set_cons_zero,List.set_cons_succ])
       obtain ⟨s7,t7,y7⟩:=S7.out
       have f7:w7.frozen? ⟨w.heap.size+1,1,none⟩=false:=by simp [World.frozen?,s7]
       have l7:=heap_in s7
       clear s7 y7
       refine anyN_one (i:=10) rfl (by as_aux_lemma=>kernel_rfl) (fun K hK=>?_)
       go_simp
       refine hK.out _ _ (fun h=>absurd rfl h) ?_
       clear hK K
       (try simp only [Act.put,List.setIfInBounds_toArray,List.set_cons_zero,List.set_cons_succ])
       refine anyN_done (by as_aux_lemma=>kernel_rfl) ?_ _
       go_wp2
       have BB:=hide ((AB.out.mono (show w.heap.size+1≤W10.heap.size by omega)).trans B12.out)
       refine ⟨⟨j+1,_,.slice a7 (RT.length+1) c7,RT++[((⟨tn,mp,fp⟩,gp,cp):TR)],by omega,by omega,by rw [List.length_append,HRT.out];rfl,by go_num,C12.out,G2.out.addT (r:=(⟨tn,mp,fp⟩,gp,cp)) htn PP.out.num PP.out.sz,R10.out.low BB.out (by omega),O10.out.then (BB.out.mono (Nat.le_succ _))⟩,by simp [intOf];omega⟩
      ·go_wp2_with fail
       obtain ⟨gp,cp,mp,fp,PP⟩:∃ gp cp mp fp,Hid (PrG (w.heap.size+2) w9 RT w3.heap.size gp cp mp fp):=⟨_,_,_,_,P9.out⟩
       clear P9
       have SQ:Hid (∀ V:World,(∀ j,j<w9.heap.size→some j≠(Value.slice a1 RT.length c1).ownBlock→V.heap[j]?=w9.heap[j]?)→V.heap[w.heap.size+1]?=some (.cells #[v0,.slice a1 RT.length c1] 26 (0,0))∧V.cell? ⟨w.heap.size+1,1,none⟩=some (.slice a1 RT.length c1)∧V.cell? ⟨w3.heap.size,0,none⟩=some (.slice (some ⟨gp,0,none⟩) mp cp)):=fun V hV=>by
        have h1:=(hV (w.heap.size+1) C9.out.lt fun e=>by have:=(C9.out.tgt.own.lt _ e.symm).1;omega).trans C9.out.box
        have h2:PB V w3.heap.size (.slice (some ⟨gp,0,none⟩) mp cp):=(hV w3.heap.size PP.out.blk.lt fun e=>by
         obtain ⟨cur,hcur⟩:=C9.out.tgt.type _ e.symm
         have h3:=PP.out.blk.symm.trans hcur
         cases h3).trans PP.out.blk
        exact ⟨h1,by simp [World.cell?,h1],h2.c0⟩
       refine wp_region_N (fun V=>V.heap[w.heap.size+1]?=some (.cells #[v0,.slice a1 RT.length c1] 26 (0,0))∧V.cell? ⟨w.heap.size+1,1,none⟩=some (.slice a1 RT.length c1)∧V.cell? ⟨w3.heap.size,0,none⟩=some (.slice (some ⟨gp,0,none⟩) mp cp)) 10 (by as_aux_lemma=>kernel_rfl) ?_
       have HS:=hide (SQ.out w9.drew (fun j hj _=>rfl))
       refine anyN_take (i:=0) (v:=?_) rfl (by as_aux_lemma=>kernel_rfl) (by as_aux_lemma=>kernel_rfl) (by as_aux_lemma=>kernel_rfl) (by as_aux_lemma=>kernel_rfl) (fun _ _ _ h=>h) rfl ?_ HS.out ?_
       rotate_left
       ·(intro wz hSw;obtain ⟨s0,s1,s2⟩:=hSw;go_simp)
        (try with_reducible rfl)
       (try simp only [Act.put,List.setIfInBounds_toArray,List.set_cons_zero,List.set_cons_succ])
       refine anyN_take (i:=1) (v:=?_) rfl (by as_aux_lemma=>kernel_rfl) (by as_aux_lemma=>kernel_rfl) (by as_aux_lemma=>kernel_rfl) (by as_aux_lemma=>kernel_rfl) (fun _ _ _ h=>h) rfl ?_ HS.out ?_
       rotate_left
       ·(intro wz hSw;obtain ⟨s0,s1,s2⟩:=hSw;go_simp)
        (try with_reducible rfl)
       (try simp only [Act.put,List.setIfInBounds_toArray,List.set_cons_zero,List.set_cons_succ])
       refine anyN_take (i:=2) (v:=?_) rfl (by as_aux_lemma=>kernel_rfl) (by as_aux_lemma=>kernel_rfl) (by as_aux_lemma=>kernel_rfl) (by as_aux_lemma=>kernel_rfl) (fun _ _ _ h=>h) rfl ?_ HS.out ?_
       rotate_left
       ·(intro wz hSw;obtain ⟨s0,s1,s2⟩:=hSw;go_simp)
        (try with_reducible rfl)
       (try simp only [Act.put,List.setIfInBounds_toArray,List.set_cons_zero,List.set_cons_succ])
       refine anyN_take (i:=5) (v:=?_) rfl (by as_aux_lemma=>kernel_rfl) (by as_aux_lemma=>kernel_rfl) (by as_aux_lemma=>kernel_rfl) (by as_aux_lemma=>kernel_rfl) (fun _ _ _ h=>h) rfl ?_ HS.out ?_
       rotate_left
       ·(intro wz hSw;obtain ⟨s0,s1,s2⟩:=hSw;go_simp)
        (try with_reducible rfl)
       (try simp only [Act.put,List.setIfInBounds_toArray,List.set_cons_zero,List.set_cons_succ])
       refine anyN_one (i:=3) rfl (by as_aux_lemma=>kernel_rfl) (fun K hK=>?_)
       go_simp
       go_at_call 89
       refine (l1Dec_small j (by omega) _).mono ?_
       rintro e wt ⟨rfl,hBt⟩
       have BT:Hid (Below w9.heap.size w9 wt):=(Below.refl w9.heap.size w9).drew.trans hBt
       clear hBt
       refine hK.out _ _ (fun _=>SQ.out _ (fun j hj _=>BT.out.block j hj)) ?_
       clear hK K HS
       (try simp only [Act.put,List.setIfInBounds_toArray,List.set_cons_zero,List.set_cons_succ])
       refine anyN_one (i:=4) rfl (by as_aux_lemma=>kernel_rfl) (fun K hK=>?_)
       go_simp
       refine hK.out _ _ (fun _=>SQ.out _ (fun j hj _=>BT.out.block j hj)) ?_
       clear hK K
       (try simp only [Act.put,List.setIfInBounds_toArray,List.set_cons_zero,List.set_cons_succ])
       have htn:((⟨#[116]⟩:ByteArray)++⟨#[dig j]⟩).size≤5000:=by
        have e1:(⟨#[116]⟩:ByteArray).size=1:=rfl
        have e2:(⟨#[dig j]⟩:ByteArray).size=1:=rfl
        simp only [ByteArray.size_append,e1,e2]
        omega
       generalize (⟨#[116]⟩:ByteArray)++⟨#[dig j]⟩=tn at htn ⊢
       refine anyN_one (i:=6) rfl (by as_aux_lemma=>kernel_rfl) (fun K hK=>?_)
       go_simp
       refine hK.out _ _ (fun _=>SQ.out _ (fun j hj _=>BT.out.block j hj)) ?_
       clear hK K
       (try simp only [Act.put,List.setIfInBounds_toArray,List.set_cons_zero,List.set_cons_succ])
       refine anyN_one (i:=7) rfl (by as_aux_lemma=>kernel_rfl) (fun K hK=>?_)
       go_simp
       have hbx:=C9.out.lt
       have hzt:=BT.out.size
       have AB:=hide (BT.out.alloc (by omega) (.cells #[.string tn,.slice (some ⟨gp,0,none⟩) mp cp] 80))
       have C11:=hide (C9.out.below AB.out)
       have P11:=hide (PP.out.below AB.out lr)
       have hz6:=AB.out.size
       refine hK.out _ _ (fun _=>SQ.out _ (fun j hj _=>AB.out.block j hj)) ?_
       clear hK K
       (try simp only [Act.put,List.setIfInBounds_toArray,List.set_cons_zero,List.set_cons_succ])
       refine anyN_one (i:=8) rfl (by as_aux_lemma=>kernel_rfl) (fun K hK=>?_)
       refine step_append_own_at rfl (.tmp 101) (.tmp 107) 24 rfl (w.heap.size+2) 80 i1' (.agg #[.string ⟨#[]⟩,.slice none 0 0]) 2 40 Tryz.underlying24 hj hz0 hz1 hz2 rfl (by decide) (.slice a1 RT.length c1) RT.length (RT.flatMap tgtV) (by simp [Act.eval]) C11.out.tgt.own ⟨wt.heap.size,0,none⟩ 1 1 (tgtV (⟨tn,mp,fp⟩,gp,cp)) (by simp [Act.eval]) rfl (fun j u hu=>two_new wt _ _ _ j u hu) (by simp [tgtV,Value.oneCell']) (by unfold maxLen;omega) (by omega) (by omega) ?_
       intro v' w7 hown hgrow _
       obtain ⟨a7,c7,rfl⟩:=own_slice hown
       have S7:=hide (SQ.out w7 (fun j hj hne=>(hgrow.block j (Nat.lt_of_lt_of_le hj AB.out.size) hne).trans (AB.out.block j hj)))
       obtain ⟨c8,b8⟩:=C11.out.addT (x:=⟨tn,mp,fp⟩) (g:=gp) (c:=cp) P11.out.new P11.out.own hown hgrow
       have C12:=hide c8
       have B12:=hide b8
       clear hown hgrow c8 b8
       refine hK.out _ _ (fun _=>S7.out) ?_
       clear hK K
       (try simp only [Act.put,List.setIfInBounds_toArray,List.set_cons_zero,List.set_cons_succ])
       refine anyN_one (i:=9) rfl (by as_aux_lemma=>kernel_rfl) (fun K hK=>?_)
       go_simp
       refine hK.out _ _ (fun _=>S7.out) ?_
       clear hK K
       (try simp only [Act.put,List.setIfInBounds_toArray,List.set_cons_zero,List.set_cons_succ])
       obtain ⟨s7,t7,y7⟩:=S7.out
       have f7:w7.frozen? ⟨w.heap.size+1,1,none⟩=false:=by simp [World.frozen?,s7]
       have l7:=heap_in s7
       clear s7 y7
       refine anyN_one (i:=10) rfl (by as_aux_lemma=>kernel_rfl) (fun K hK=>?_)
       go_simp
       refine hK.out _ _ (fun h=>absurd rfl h) ?_
       clear hK K
       (try simp only [Act.put,List.setIfInBounds_toArray,List.set_cons_zero,List.set_cons_succ])
       refine anyN_done (by as_aux_lemma=>kernel_rfl) ?_ _
       go_wp2
       have BB:=hide ((AB.out.mono (show w.heap.size+1≤w9.heap.size by omega)).trans B12.out)
       refine ⟨⟨j+1,_,.slice a7 (RT.length+1) c7,RT++[((⟨tn,mp,fp⟩,gp,cp):TR)],by omega,by omega,by rw [List.length_append,HRT.out];rfl,by go_num,C12.out,G2.out.addT (r:=(⟨tn,mp,fp⟩,gp,cp)) htn PP.out.num PP.out.sz,R9.out.low BB.out (by omega),O9.out.then (BB.out.mono (Nat.le_succ _))⟩,by simp [intOf];omega⟩
    ·obtain rfl:j=n+1:=by omega
     obtain ⟨a0,c0,rfl⟩:=own_slice C2.out.src
     obtain ⟨k0,k1⟩:=C2.out.cells
     have kr:=C2.out.res
     have r0:wr.cell? ⟨w.heap.size,0,none⟩=some (.slice none 0 0):=by simp [World.cell?,kr]
     have r1:wr.cell? ⟨w.heap.size,1,none⟩=some (.slice none 0 0):=by simp [World.cell?,kr]
     have f0:wr.frozen? ⟨w.heap.size,0,none⟩=false:=by simp [World.frozen?,kr]
     have f1:wr.frozen? ⟨w.heap.size,1,none⟩=false:=by simp [World.frozen?,kr]
     have l0:=heap_in kr
     have l1:=C2.out.lt
     clear kr
     have BE:=hide (((Below.refl w.heap.size wr).setCell (p:=⟨w.heap.size,0,none⟩) lr (.slice a0 LS.length c0)).setCell (p:=⟨w.heap.size,1,none⟩) lr (.slice a1 RT.length c1))
     have OE:=hide (own_set (own_set C2.out.src (R:=w.heap.size) (j:=0) (by omega) (.slice a0 LS.length c0)) (R:=w.heap.size) (j:=1) (by omega) (.slice a1 RT.length c1))
     have TE:=hide ((C2.out.tgt.set (X:=w.heap.size) (j:=0) (by omega) (.slice a0 LS.length c0)).set (X:=w.heap.size) (j:=1) (by omega) (.slice a1 RT.length c1))
     have HRT:Hid (RT.length=n+1):=hrt
     clear hrt
     go_wp2
     exact bodyPost_ret (v:=.agg #[.slice a0 LS.length c0,.slice a1 RT.length c1]) (by simp [results,Tryz.results87,go_sem,r0,r1]) rfl ⟨LS,RT,_,_,rfl,OE.out,TE.out,G2.out,by omega,by have:=HRT.out;omega,q2,by omega,R2.out.low BE.out hlow,O2.out.then BE.out⟩
end Go.Proofs.YtpacbfkbhhnblaaGreatDoor.Vp
