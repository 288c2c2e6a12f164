import Derived.Test.YtpacbfkbhhnblaaGreatDoorYL
import Derived.Test.YtpacbfkbhhnblaaGreatDoorYN
set_option maxRecDepth 100000
set_option maxHeartbeats 8000000
namespace Go.Proofs.YtpacbfkbhhnblaaGreatDoor.Vp
open Go.RowKit Go.Proofs.YtpacbfkbhhnblaaGreatDoor.Ca
theorem l2Chain_any (n:Nat)(hn:n≤200)(en:ByteArray)(he:en.size≤5000)(w:World) :
  Calls Tryz.prog 86 #[.int .i64 n,.string en] w fun e w'=>DF w e w':=by
 obtain ⟨i1',hj,hz0,hz1,hz2⟩:=info_parts infoTarget
 have hzA:(w.alloc (.cells #[.slice none 0 0,.slice none 0 0] 26)).heap.size=w.heap.size+1:=by simp
 have hzB:((w.alloc (.cells #[.slice none 0 0,.slice none 0 0] 26)).alloc (.cells #[.string ⟨#[97]⟩,.string ⟨#[103,114,111,117,110,100]⟩] 76)).heap.size=w.heap.size+1+1:=by simp
 have A0:=hide (((((Below.refl w.heap.size w).alloc lr (.cells #[.slice none 0 0,.slice none 0 0] 26))).alloc (by omega) (.cells #[.string ⟨#[97]⟩,.string ⟨#[103,114,111,117,110,100]⟩] 76)).alloc (by omega) (.cells #[.slice (some ⟨w.heap.size+1,0,none⟩) 1 1,.slice none 0 0] 26))
 have X1:Hid (SpX w.heap.size (w.heap.size+1+1) (w.heap.size+1) (((w.alloc (.cells #[.slice none 0 0,.slice none 0 0] 26)).alloc (.cells #[.string ⟨#[97]⟩,.string ⟨#[103,114,111,117,110,100]⟩] 76)).alloc (.cells #[.slice (some ⟨w.heap.size+1,0,none⟩) 1 1,.slice none 0 0] 26)) (.slice (some ⟨w.heap.size+1,0,none⟩) 1 1) (.slice none 0 0) [⟨⟨#[97]⟩,⟨#[103,114,111,117,110,100]⟩⟩] []):=by
  have k1:=heap_alloc_new w (.cells #[.slice none 0 0,.slice none 0 0] 26)
  have k2:=heap_alloc_new (w.alloc (.cells #[.slice none 0 0,.slice none 0 0] 26)) (.cells #[.string ⟨#[97]⟩,.string ⟨#[103,114,111,117,110,100]⟩] 76)
  rw [hzA] at k2
  have BQ:=(Below.refl (w.heap.size+1) (w.alloc (.cells #[.slice none 0 0,.slice none 0 0] 26))).alloc (by omega) (.cells #[.string ⟨#[97]⟩,.string ⟨#[103,114,111,117,110,100]⟩] 76)
  have h:=spx_new (LS:=[⟨⟨#[97]⟩,⟨#[103,114,111,117,110,100]⟩⟩]) (base:=w.heap.size+1) (base':=w.heap.size+1) ((BQ.block w.heap.size (Nat.lt_succ_self _)).trans k1) (Nat.lt_succ_self _) lr (by omega) (v0:=.slice (some ⟨w.heap.size+1,0,none⟩) 1 1) ⟨rfl,.inr ⟨w.heap.size+1,1,_,rfl,Nat.le_refl _,k2,Nat.le_refl _,by unfold maxLen;omega,rfl,rfl⟩⟩ (tRow_nil _ _)
  rw [hzB] at h
  exact h
 have hw2:IntKind.i64.wrap ((n:Int) - 1)=(n:Int) - 1:=by rw [IntKind.wrap_i64];omega
 clear hzA hzB
 go_enter Tryz.func86,Tryz.ntmps86
 go_wp2_with fail
 generalize ((w.alloc (.cells #[.slice none 0 0,.slice none 0 0] 26)).alloc (.cells #[.string ⟨#[97]⟩,.string ⟨#[103,114,111,117,110,100]⟩] 76)).alloc (.cells #[.slice (some ⟨w.heap.size+1,0,none⟩) 1 1,.slice none 0 0] 26)=W2 at X1 A0 ⊢
 obtain ⟨LS,a2,c2,hLS,X1'⟩:∃ (LS:List Source) (a2:Option Addr) (c2:Nat),LS.length≤300∧Hid (SpX w.heap.size (w.heap.size+1+1) (w.heap.size+1) W2 (.slice a2 LS.length c2) (.slice none 0 0) LS []):=⟨[⟨⟨#[97]⟩,⟨#[103,114,111,117,110,100]⟩⟩],some ⟨w.heap.size+1,0,none⟩,1,by show 1≤300;omega,X1.out⟩
 clear X1
 generalize hxb:w.heap.size+1+1=xb at X1' ⊢
 clear hxb
 go_loopw [6] (fun i wr=>∃ (k:Nat) (v1:Value) (RT':List TR),i=.int .i64 k∧k≤n∧RT'.length=k∧Hid (SpX w.heap.size xb (w.heap.size+1) wr (.slice a2 LS.length c2) v1 LS RT')∧Hid (GX RT')∧Hid (Below w.heap.size w wr)) (fun i _=>n - (intOf i).toNat)
 case atStart=>exact ⟨0,_,[],rfl,by omega,rfl,X1'.out,fun _ h=>absurd h List.not_mem_nil,A0.out⟩
 case round =>
  obtain ⟨k,v1,RT',rfl,hk,hkl,X2,G2,B2⟩:=hrel
  have HK:Hid (RT'.length=k):=hkl
  obtain ⟨a5,c5,rfl⟩:=own_slice X2.out.tgt.own
  obtain ⟨kc0,kc1⟩:=X2.out.cells
  have hxl:=X2.out.lt
  have hrn:RT'.length≤200:=by omega
  clear hkl
  by_cases hlt:k<n
  ·have hwk:IntKind.i64.wrap ((k:Int)+1)=(k:Int)+1:=by rw [IntKind.wrap_i64];omega
   go_wp2_with fail
   refine (l2Label_any (k+1) (by omega) _).mono ?_
   rintro e wa ⟨nb,rfl,hnb,hBa⟩
   have X3:=hide (X2.out.below hBa lr)
   have B3:=hide (B2.out.trans (hBa.mono B2.out.size))
   obtain ⟨kc0,kc1⟩:=X3.out.cells
   have hxl:=X3.out.lt
   clear hBa
   by_cases hla:(n:Int) - 1=(k:Int)
   ·go_wp2_with fail
    clear hla
    clear kc0 kc1
    have SQ:Hid (∀ V:World,(∀ j,j<wa.heap.size→some j≠(Value.slice a5 RT'.length c5).ownBlock→V.heap[j]?=wa.heap[j]?)→V.heap[xb]?=some (.cells #[.slice a2 LS.length c2,.slice a5 RT'.length c5] 26 (0,0))∧V.cell? ⟨xb,1,none⟩=some (.slice a5 RT'.length c5)):=fun V hV=>by
     have h1:=(hV xb X3.out.lt fun e=>by
      obtain ⟨cur,hcur⟩:=X3.out.tgt.type _ e.symm
      have h3:=X3.out.box.symm.trans hcur
      cases h3).trans X3.out.box
     exact ⟨h1,by simp [World.cell?,h1]⟩
    refine wp_region_N (fun V=>V.heap[xb]?=some (.cells #[.slice a2 LS.length c2,.slice a5 RT'.length c5] 26 (0,0))∧V.cell? ⟨xb,1,none⟩=some (.slice a5 RT'.length c5)) 14 (by as_aux_lemma=>kernel_rfl) ?_
    have HS:=hide (SQ.out wa.drew (fun j hj _=>rfl))
    refine anyN_take (i:=0) (v:=?_) rfl (by as_aux_lemma=>kernel_rfl) (by as_aux_lemma=>kernel_rfl) (by as_aux_lemma=>kernel_rfl) (by as_aux_lemma=>kernel_rfl) (fun _ _ _ h=>h) rfl ?_ HS.out ?_
    rotate_left
    ·(intro wz hSw;obtain ⟨s0,s1⟩:=hSw;go_simp)
     (try with_reducible rfl)
    (try simp only [Act.put,List.setIfInBounds_toArray,List.set_cons_zero,List.set_cons_succ])
    refine anyN_take (i:=1) (v:=?_) rfl (by as_aux_lemma=>kernel_rfl) (by as_aux_lemma=>kernel_rfl) (by as_aux_lemma=>kernel_rfl) (by as_aux_lemma=>kernel_rfl) (fun _ _ _ h=>h) rfl ?_ HS.out ?_
    rotate_left
    ·(intro wz hSw;obtain ⟨s0,s1⟩:=hSw;go_simp)
     (try with_reducible rfl)
    (try simp only [Act.put,List.setIfInBounds_toArray,List.set_cons_zero,List.set_cons_succ])
    refine anyN_take (i:=2) (v:=?_) rfl (by as_aux_lemma=>kernel_rfl) (by as_aux_lemma=>kernel_rfl) (by as_aux_lemma=>kernel_rfl) (by as_aux_lemma=>kernel_rfl) (fun _ _ _ h=>h) rfl ?_ HS.out ?_
    rotate_left
    ·(intro wz hSw;obtain ⟨s0,s1⟩:=hSw;go_simp)
     (try with_reducible rfl)
    (try simp only [Act.put,List.setIfInBounds_toArray,List.set_cons_zero,List.set_cons_succ])
    refine anyN_take (i:=4) (v:=?_) rfl (by as_aux_lemma=>kernel_rfl) (by as_aux_lemma=>kernel_rfl) (by as_aux_lemma=>kernel_rfl) (by as_aux_lemma=>kernel_rfl) (fun _ _ _ h=>h) rfl ?_ HS.out ?_
    rotate_left
    ·(intro wz hSw;obtain ⟨s0,s1⟩:=hSw;go_simp)
     (try with_reducible rfl)
    (try simp only [Act.put,List.setIfInBounds_toArray,List.set_cons_zero,List.set_cons_succ])
    refine anyN_one (i:=3) rfl (by as_aux_lemma=>kernel_rfl) (fun K hK=>?_)
    go_simp
    go_at_call 90
    refine (l2Label_any k (by omega) _).mono ?_
    rintro e wl ⟨tn,rfl,htn,hBl⟩
    have BL:Hid (Below wa.heap.size wa wl):=(Below.refl wa.heap.size wa).drew.trans hBl
    clear hBl HS
    have HS:=hide (SQ.out wl (fun j hj _=>BL.out.block j hj))
    refine hK.out _ _ (fun _=>HS.out) ?_
    clear hK K
    (try simp only [Act.put,List.setIfInBounds_toArray,List.set_cons_zero,List.set_cons_succ])
    refine anyN_one (i:=5) rfl (by as_aux_lemma=>kernel_rfl) (fun K hK=>?_)
    go_simp
    go_at_call 91
    refine (l1Lit_any _ _).mono ?_
    rintro e wm ⟨rfl,hBm⟩
    have BM:=hide (BL.out.trans (hBm.mono BL.out.size))
    clear hBm HS
    have HS:=hide (SQ.out wm (fun j hj _=>BM.out.block j hj))
    refine hK.out _ _ (fun _=>HS.out) ?_
    clear hK K
    (try simp only [Act.put,List.setIfInBounds_toArray,List.set_cons_zero,List.set_cons_succ])
    refine anyN_one (i:=6) rfl (by as_aux_lemma=>kernel_rfl) (fun K hK=>?_)
    go_simp
    go_at_call 92
    refine (l1Op_any _ _).mono ?_
    rintro e wo ⟨rfl,hBo⟩
    have BO:=hide (BM.out.trans (hBo.mono BM.out.size))
    clear hBo HS
    have HS:=hide (SQ.out wo (fun j hj _=>BO.out.block j hj))
    refine hK.out _ _ (fun _=>HS.out) ?_
    clear hK K
    (try simp only [Act.put,List.setIfInBounds_toArray,List.set_cons_zero,List.set_cons_succ])
    refine anyN_one (i:=7) rfl (by as_aux_lemma=>kernel_rfl) (fun K hK=>?_)
    go_simp
    go_at_call 92
    refine (l1Op_any _ _).mono ?_
    rintro e wn ⟨rfl,hBn⟩
    have BN:=hide (BO.out.trans (hBn.mono BO.out.size))
    clear hBn HS BL BM BO
    have hzn:=BN.out.size
    have BI:=hide (BN.out.alloc (by omega) (.cells #[.int .i64 1,.string en,.int .i64 0,.int .i64 12,.string ⟨#[]⟩,.int .i64 0,.int .i64 15,.string ⟨#[]⟩,.int .i64 0] 129))
    have hxi:=X3.out.hi
    have OI:=hide (own_three wn en (base:=w.heap.size+1) (by omega))
    have HS:=hide (SQ.out wn (fun j hj _=>BN.out.block j hj))
    refine hK.out _ _ (fun _=>HS.out) ?_
    clear hK K HS
    (try simp only [Act.put,List.setIfInBounds_toArray,List.set_cons_zero,List.set_cons_succ])
    have HS:=hide (SQ.out _ (fun j hj _=>BI.out.block j hj))
    refine anyN_one (i:=8) rfl (by as_aux_lemma=>kernel_rfl) (fun K hK=>?_)
    go_simp
    refine hK.out _ _ (fun _=>HS.out) ?_
    clear hK K
    (try simp only [Act.put,List.setIfInBounds_toArray,List.set_cons_zero,List.set_cons_succ])
    refine anyN_one (i:=9) rfl (by as_aux_lemma=>kernel_rfl) (fun K hK=>?_)
    go_simp
    refine hK.out _ _ (fun _=>HS.out) ?_
    clear hK K
    (try simp only [Act.put,List.setIfInBounds_toArray,List.set_cons_zero,List.set_cons_succ])
    refine anyN_one (i:=10) rfl (by as_aux_lemma=>kernel_rfl) (fun K hK=>?_)
    go_simp
    refine hK.out _ _ (fun _=>HS.out) ?_
    clear hK K
    (try simp only [Act.put,List.setIfInBounds_toArray,List.set_cons_zero,List.set_cons_succ])
    have hzb:(wn.alloc (.cells #[.int .i64 1,.string en,.int .i64 0,.int .i64 12,.string ⟨#[]⟩,.int .i64 0,.int .i64 15,.string ⟨#[]⟩,.int .i64 0] 129)).heap.size=wn.heap.size+1:=by simp
    have AB:=hide (BI.out.alloc (by omega) (.cells #[.string tn,.slice (some ⟨wn.heap.size,0,none⟩) 3 3] 80))
    refine anyN_one (i:=11) rfl (by as_aux_lemma=>kernel_rfl) (fun K hK=>?_)
    go_simp
    have XA:=hide (X3.out.below AB.out lr)
    have OA:=hide (own_below OI.out ((Below.refl _ _).alloc lr (.cells #[.string tn,.slice (some ⟨wn.heap.size,0,none⟩) 3 3] 80)) lr)
    refine hK.out _ _ (fun _=>SQ.out _ (fun j hj _=>AB.out.block j hj)) ?_
    clear hK K
    (try simp only [Act.put,List.setIfInBounds_toArray,List.set_cons_zero,List.set_cons_succ])
    refine anyN_one (i:=12) rfl (by as_aux_lemma=>kernel_rfl) (fun K hK=>?_)
    refine step_append_own_at rfl (.tmp 25) (.tmp 35) 24 rfl (w.heap.size+1) 80 i1' (.agg #[.string ⟨#[]⟩,.slice none 0 0]) 2 40 Tryz.underlying24 hj hz0 hz1 hz2 rfl (by decide) (.slice a5 RT'.length c5) RT'.length (RT'.flatMap tgtV) (by simp [Act.eval]) XA.out.tgt.own ⟨wn.heap.size+1,0,none⟩ 1 1 (tgtV (⟨tn,3,lsI (threeL en)⟩,wn.heap.size,3)) (by simp [Act.eval]) rfl (fun j u hu=>two_new2 (hzb) _ _ _ j u hu) (by simp [tgtV,Value.oneCell']) (by unfold maxLen;omega) (by omega) (by have:=XA.out.hi;have:=XA.out.lt;omega) ?_
    intro v' w7 hown hgrow _
    obtain ⟨a7,c7,rfl⟩:=own_slice hown
    have S7:=hide (SQ.out w7 (fun j hj hne=>(hgrow.block j (Nat.lt_of_lt_of_le hj AB.out.size) hne).trans (AB.out.block j hj)))
    obtain ⟨c8,b8⟩:=XA.out.addT (x:=⟨tn,3,lsI (threeL en)⟩) (g:=wn.heap.size) (c:=3) (fun r hr e=>by have:=X3.out.tgt.ltg r hr;omega) OA.out hown hgrow
    have X9:=hide c8
    have B9:=hide b8
    clear hown hgrow c8 b8
    refine hK.out _ _ (fun _=>S7.out) ?_
    clear hK K
    (try simp only [Act.put,List.setIfInBounds_toArray,List.set_cons_zero,List.set_cons_succ])
    refine anyN_one (i:=13) rfl (by as_aux_lemma=>kernel_rfl) (fun K hK=>?_)
    go_simp
    refine hK.out _ _ (fun _=>S7.out) ?_
    clear hK K
    (try simp only [Act.put,List.setIfInBounds_toArray,List.set_cons_zero,List.set_cons_succ])
    obtain ⟨s7,t7⟩:=S7.out
    have f7:w7.frozen? ⟨xb,1,none⟩=false:=by simp [World.frozen?,s7]
    have l7:=heap_in s7
    clear s7
    refine anyN_one (i:=14) rfl (by as_aux_lemma=>kernel_rfl) (fun K hK=>?_)
    go_simp
    refine hK.out _ _ (fun h=>absurd rfl h) ?_
    clear hK K
    (try simp only [Act.put,List.setIfInBounds_toArray,List.set_cons_zero,List.set_cons_succ])
    refine anyN_done (by as_aux_lemma=>kernel_rfl) ?_ _
    go_wp2
    have BB:=hide ((AB.out.mono (show w.heap.size+1≤wa.heap.size by omega)).trans B9.out)
    refine ⟨⟨k+1,.slice a7 (RT'.length+1) c7,RT'++[((⟨tn,3,lsI (threeL en)⟩,wn.heap.size,3):TR)],by go_num,by omega,by rw [List.length_append,HK.out];rfl,X9.out,G2.out.add (r:=(⟨tn,3,lsI (threeL en)⟩,wn.heap.size,3)) (by show 3≤300;omega) (three_size (by omega)),B3.out.trans (BB.out.mono (by omega))⟩,by simp [intOf];omega⟩
   ·have hlb:¬ (k:Int)=(n:Int) - 1:=fun e=>hla e.symm
    clear hla
    go_wp2_with fail
    clear hlb
    clear kc0 kc1
    have SQ:Hid (∀ V:World,(∀ j,j<wa.heap.size→some j≠(Value.slice a5 RT'.length c5).ownBlock→V.heap[j]?=wa.heap[j]?)→V.heap[xb]?=some (.cells #[.slice a2 LS.length c2,.slice a5 RT'.length c5] 26 (0,0))∧V.cell? ⟨xb,1,none⟩=some (.slice a5 RT'.length c5)):=fun V hV=>by
     have h1:=(hV xb X3.out.lt fun e=>by
      obtain ⟨cur,hcur⟩:=X3.out.tgt.type _ e.symm
      have h3:=X3.out.box.symm.trans hcur
      cases h3).trans X3.out.box
     exact ⟨h1,by simp [World.cell?,h1]⟩
    refine wp_region_N (fun V=>V.heap[xb]?=some (.cells #[.slice a2 LS.length c2,.slice a5 RT'.length c5] 26 (0,0))∧V.cell? ⟨xb,1,none⟩=some (.slice a5 RT'.length c5)) 14 (by as_aux_lemma=>kernel_rfl) ?_
    have HS:=hide (SQ.out wa.drew (fun j hj _=>rfl))
    refine anyN_take (i:=0) (v:=?_) rfl (by as_aux_lemma=>kernel_rfl) (by as_aux_lemma=>kernel_rfl) (by as_aux_lemma=>kernel_rfl) (by as_aux_lemma=>kernel_rfl) (fun _ _ _ h=>h) rfl ?_ HS.out ?_
    rotate_left
    ·(intro wz hSw;obtain ⟨s0,s1⟩:=hSw;go_simp)
     (try with_reducible rfl)
    (try simp only [Act.put,List.setIfInBounds_toArray,List.set_cons_zero,List.set_cons_succ])
    refine anyN_take (i:=1) (v:=?_) rfl (by as_aux_lemma=>kernel_rfl) (by as_aux_lemma=>kernel_rfl) (by as_aux_lemma=>kernel_rfl) (by as_aux_lemma=>kernel_rfl) (fun _ _ _ h=>h) rfl ?_ HS.out ?_
    rotate_left
    ·(intro wz hSw;obtain ⟨s0,s1⟩:=hSw;go_simp)
     (try with_reducible rfl)
    (try simp only [Act.put,List.setIfInBounds_toArray,List.set_cons_zero,List.set_cons_succ])
    refine anyN_take (i:=2) (v:=?_) rfl (by as_aux_lemma=>kernel_rfl) (by as_aux_lemma=>kernel_rfl) (by as_aux_lemma=>kernel_rfl) (by as_aux_lemma=>kernel_rfl) (fun _ _ _ h=>h) rfl ?_ HS.out ?_
    rotate_left
    ·(intro wz hSw;obtain ⟨s0,s1⟩:=hSw;go_simp)
     (try with_reducible rfl)
    (try simp only [Act.put,List.setIfInBounds_toArray,List.set_cons_zero,List.set_cons_succ])
    refine anyN_take (i:=4) (v:=?_) rfl (by as_aux_lemma=>kernel_rfl) (by as_aux_lemma=>kernel_rfl) (by as_aux_lemma=>kernel_rfl) (by as_aux_lemma=>kernel_rfl) (fun _ _ _ h=>h) rfl ?_ HS.out ?_
    rotate_left
    ·(intro wz hSw;obtain ⟨s0,s1⟩:=hSw;go_simp)
     (try with_reducible rfl)
    (try simp only [Act.put,List.setIfInBounds_toArray,List.set_cons_zero,List.set_cons_succ])
    refine anyN_one (i:=3) rfl (by as_aux_lemma=>kernel_rfl) (fun K hK=>?_)
    go_simp
    go_at_call 90
    refine (l2Label_any k (by omega) _).mono ?_
    rintro e wl ⟨tn,rfl,htn,hBl⟩
    have BL:Hid (Below wa.heap.size wa wl):=(Below.refl wa.heap.size wa).drew.trans hBl
    clear hBl HS
    have HS:=hide (SQ.out wl (fun j hj _=>BL.out.block j hj))
    refine hK.out _ _ (fun _=>HS.out) ?_
    clear hK K
    (try simp only [Act.put,List.setIfInBounds_toArray,List.set_cons_zero,List.set_cons_succ])
    refine anyN_one (i:=5) rfl (by as_aux_lemma=>kernel_rfl) (fun K hK=>?_)
    go_simp
    go_at_call 91
    refine (l1Lit_any _ _).mono ?_
    rintro e wm ⟨rfl,hBm⟩
    have BM:=hide (BL.out.trans (hBm.mono BL.out.size))
    clear hBm HS
    have HS:=hide (SQ.out wm (fun j hj _=>BM.out.block j hj))
    refine hK.out _ _ (fun _=>HS.out) ?_
    clear hK K
    (try simp only [Act.put,List.setIfInBounds_toArray,List.set_cons_zero,List.set_cons_succ])
    refine anyN_one (i:=6) rfl (by as_aux_lemma=>kernel_rfl) (fun K hK=>?_)
    go_simp
    go_at_call 92
    refine (l1Op_any _ _).mono ?_
    rintro e wo ⟨rfl,hBo⟩
    have BO:=hide (BM.out.trans (hBo.mono BM.out.size))
    clear hBo HS
    have HS:=hide (SQ.out wo (fun j hj _=>BO.out.block j hj))
    refine hK.out _ _ (fun _=>HS.out) ?_
    clear hK K
    (try simp only [Act.put,List.setIfInBounds_toArray,List.set_cons_zero,List.set_cons_succ])
    refine anyN_one (i:=7) rfl (by as_aux_lemma=>kernel_rfl) (fun K hK=>?_)
    go_simp
    go_at_call 92
    refine (l1Op_any _ _).mono ?_
    rintro e wn ⟨rfl,hBn⟩
    have BN:=hide (BO.out.trans (hBn.mono BO.out.size))
    clear hBn HS BL BM BO
    have hzn:=BN.out.size
    have BI:=hide (BN.out.alloc (by omega) (.cells #[.int .i64 1,.string nb,.int .i64 0,.int .i64 12,.string ⟨#[]⟩,.int .i64 0,.int .i64 15,.string ⟨#[]⟩,.int .i64 0] 129))
    have hxi:=X3.out.hi
    have OI:=hide (own_three wn nb (base:=w.heap.size+1) (by omega))
    have HS:=hide (SQ.out wn (fun j hj _=>BN.out.block j hj))
    refine hK.out _ _ (fun _=>HS.out) ?_
    clear hK K HS
    (try simp only [Act.put,List.setIfInBounds_toArray,List.set_cons_zero,List.set_cons_succ])
    have HS:=hide (SQ.out _ (fun j hj _=>BI.out.block j hj))
    refine anyN_one (i:=8) rfl (by as_aux_lemma=>kernel_rfl) (fun K hK=>?_)
    go_simp
    refine hK.out _ _ (fun _=>HS.out) ?_
    clear hK K
    (try simp only [Act.put,List.setIfInBounds_toArray,List.set_cons_zero,List.set_cons_succ])
    refine anyN_one (i:=9) rfl (by as_aux_lemma=>kernel_rfl) (fun K hK=>?_)
    go_simp
    refine hK.out _ _ (fun _=>HS.out) ?_
    clear hK K
    (try simp only [Act.put,List.setIfInBounds_toArray,List.set_cons_zero,List.set_cons_succ])
    refine anyN_one (i:=10) rfl (by as_aux_lemma=>kernel_rfl) (fun K hK=>?_)
    go_simp
    refine hK.out _ _ (fun _=>HS.out) ?_
    clear hK K
    (try simp only [Act.put,List.setIfInBounds_toArray,List.set_cons_zero,List.set_cons_succ])
    have hzb:(wn.alloc (.cells #[.int .i64 1,.string nb,.int .i64 0,.int .i64 12,.string ⟨#[]⟩,.int .i64 0,.int .i64 15,.string ⟨#[]⟩,.int .i64 0] 129)).heap.size=wn.heap.size+1:=by simp
    have AB:=hide (BI.out.alloc (by omega) (.cells #[.string tn,.slice (some ⟨wn.heap.size,0,none⟩) 3 3] 80))
    refine anyN_one (i:=11) rfl (by as_aux_lemma=>kernel_rfl) (fun K hK=>?_)
    go_simp
    have XA:=hide (X3.out.below AB.out lr)
    have OA:=hide (own_below OI.out ((Below.refl _ _).alloc lr (.cells #[.string tn,.slice (some ⟨wn.heap.size,0,none⟩) 3 3] 80)) lr)
    refine hK.out _ _ (fun _=>SQ.out _ (fun j hj _=>AB.out.block j hj)) ?_
    clear hK K
    (try simp only [Act.put,List.setIfInBounds_toArray,List.set_cons_zero,List.set_cons_succ])
    refine anyN_one (i:=12) rfl (by as_aux_lemma=>kernel_rfl) (fun K hK=>?_)
    refine step_append_own_at rfl (.tmp 25) (.tmp 35) 24 rfl (w.heap.size+1) 80 i1' (.agg #[.string ⟨#[]⟩,.slice none 0 0]) 2 40 Tryz.underlying24 hj hz0 hz1 hz2 rfl (by decide) (.slice a5 RT'.length c5) RT'.length (RT'.flatMap tgtV) (by simp [Act.eval]) XA.out.tgt.own ⟨wn.heap.size+1,0,none⟩ 1 1 (tgtV (⟨tn,3,lsI (threeL nb)⟩,wn.heap.size,3)) (by simp [Act.eval]) rfl (fun j u hu=>two_new2 (hzb) _ _ _ j u hu) (by simp [tgtV,Value.oneCell']) (by unfold maxLen;omega) (by omega) (by have:=XA.out.hi;have:=XA.out.lt;omega) ?_
    intro v' w7 hown hgrow _
    obtain ⟨a7,c7,rfl⟩:=own_slice hown
    have S7:=hide (SQ.out w7 (fun j hj hne=>(hgrow.block j (Nat.lt_of_lt_of_le hj AB.out.size) hne).trans (AB.out.block j hj)))
    obtain ⟨c8,b8⟩:=XA.out.addT (x:=⟨tn,3,lsI (threeL nb)⟩) (g:=wn.heap.size) (c:=3) (fun r hr e=>by have:=X3.out.tgt.ltg r hr;omega) OA.out hown hgrow
    have X9:=hide c8
    have B9:=hide b8
    clear hown hgrow c8 b8
    refine hK.out _ _ (fun _=>S7.out) ?_
    clear hK K
    (try simp only [Act.put,List.setIfInBounds_toArray,List.set_cons_zero,List.set_cons_succ])
    refine anyN_one (i:=13) rfl (by as_aux_lemma=>kernel_rfl) (fun K hK=>?_)
    go_simp
    refine hK.out _ _ (fun _=>S7.out) ?_
    clear hK K
    (try simp only [Act.put,List.setIfInBounds_toArray,List.set_cons_zero,List.set_cons_succ])
    obtain ⟨s7,t7⟩:=S7.out
    have f7:w7.frozen? ⟨xb,1,none⟩=false:=by simp [World.frozen?,s7]
    have l7:=heap_in s7
    clear s7
    refine anyN_one (i:=14) rfl (by as_aux_lemma=>kernel_rfl) (fun K hK=>?_)
    go_simp
    refine hK.out _ _ (fun h=>absurd rfl h) ?_
    clear hK K
    (try simp only [Act.put,List.setIfInBounds_toArray,List.set_cons_zero,List.set_cons_succ])
    refine anyN_done (by as_aux_lemma=>kernel_rfl) ?_ _
    go_wp2
    have BB:=hide ((AB.out.mono (show w.heap.size+1≤wa.heap.size by omega)).trans B9.out)
    refine ⟨⟨k+1,.slice a7 (RT'.length+1) c7,RT'++[((⟨tn,3,lsI (threeL nb)⟩,wn.heap.size,3):TR)],by go_num,by omega,by rw [List.length_append,HK.out];rfl,X9.out,G2.out.add (r:=(⟨tn,3,lsI (threeL nb)⟩,wn.heap.size,3)) (by show 3≤300;omega) (three_size (by omega)),B3.out.trans (BB.out.mono (by omega))⟩,by simp [intOf];omega⟩
  ·obtain rfl:k=n:=by omega
   have kr:=X2.out.res
   have r0:wr.cell? ⟨w.heap.size,0,none⟩=some (.slice none 0 0):=by simp [World.cell?,kr]
   have r1:wr.cell? ⟨w.heap.size,1,none⟩=some (.slice none 0 0):=by simp [World.cell?,kr]
   have f0:wr.frozen? ⟨w.heap.size,0,none⟩=false:=by simp [World.frozen?,kr]
   have f1:wr.frozen? ⟨w.heap.size,1,none⟩=false:=by simp [World.frozen?,kr]
   have l0:=heap_in kr
   clear kr
   have BE:=hide ((B2.out.setCell (p:=⟨w.heap.size,0,none⟩) lr (.slice a2 LS.length c2)).setCell (p:=⟨w.heap.size,1,none⟩) lr (.slice a5 RT'.length c5))
   have HE:=hide ((X2.out.fin rfl rfl hLS (by omega) G2.out (.slice a2 LS.length c2) (.slice a5 RT'.length c5)).mono (Nat.le_succ w.heap.size))
   go_wp2
   exact bodyPost_ret (v:=.agg #[.slice a2 LS.length c2,.slice a5 RT'.length c5]) (by simp [results,Tryz.results86,go_sem,r0,r1]) rfl ⟨_,_,_,_,_,_,_,_,rfl,HE.out,BE.out⟩
theorem lit3_at {w:World}{b:Nat}{s0 s1 s2:ByteArray}{t:TypeId}{fz:Nat × Nat}(h:w.heap[b]?=some (.cells #[.string s0,.string s1,.string s2] t fz))(h0:s0.size≤5000)(h1:s1.size≤5000)(h2:s2.size≤5000)(k:Nat)(hk:k<3):∃ s:ByteArray,w.cell? ⟨b,k,none⟩=some (.string s)∧s.size≤5000:=by
 match k,hk with
 | 0,_=>exact ⟨s0,by simp [World.cell?,h],h0⟩
 | 1,_=>exact ⟨s1,by simp [World.cell?,h],h1⟩
 | 2,_=>exact ⟨s2,by simp [World.cell?,h],h2⟩
 | j+3,h5=>exact absurd h5 (by omega)
theorem dsp_hsp {w:World}{base:Nat}{a0 a1:Option Addr}{c0 c1:Nat}{LS:List Source}{RT:List TR}(hs:w.ownsRow base 76 2 (.slice a0 LS.length c0) LS.length (LS.flatMap srcV))(ht:TRow w base (.slice a1 RT.length c1) RT)(hG:SpG LS RT)(h0:LS.length≤300)(h1:RT.length≤300):HSp base w a0 LS.length (srcF LS) a1 RT.length (tgtF (RT.map (·.1)))∧∀ i,i<RT.length→1≤(tgtF (RT.map (·.1)) i).actN∧(tgtF (RT.map (·.1)) i).actN≤200:=by
 refine ⟨hsp_of hs rfl ht rfl h0 h1 (fun r hr=>⟨by have:=(hG.t r hr).2.1.2;omega,(hG.t r hr).2.2⟩),fun i hi=>?_⟩
 have e:tgtF (RT.map (·.1)) i=RT[i].1:=by simp [tgtF,hi]
 rw [e]
 exact (hG.t _ (List.getElem_mem hi)).2.1
theorem l2Any_any (R p:Nat)(w:World)(hR:Rd w R p)(hp:p≤9000) :
  Calls Tryz.prog 30 #[.pointer (some ⟨R,0,none⟩)] w fun e w'=>DH w R (p+6300) e w':=by
 have HR:=hide hR
 have hlow:=hR.lt
 clear hR
 go_enter Tryz.func30,Tryz.ntmps30
 go_wp2_with fail
 have A0:=hide ((Below.refl w.heap.size w).alloc lr (.cells #[.slice none 0 0,.slice none 0 0] 26))
 have K0:Hid ((w.alloc (.cells #[.slice none 0 0,.slice none 0 0] 26)).heap[w.heap.size]?=some (.cells #[.slice none 0 0,.slice none 0 0] 26 (0,0))):=heap_alloc_new w _
 have hz0:(w.alloc (.cells #[.slice none 0 0,.slice none 0 0] 26)).heap.size=w.heap.size+1:=by simp
 generalize w.alloc (.cells #[.slice none 0 0,.slice none 0 0] 26)=W0 at A0 K0 hz0 ⊢
 refine (pick_any R p 24 _ (HR.out.below A0.out lr) (by omega) (by omega) (by omega)).mono ?_
 rintro e w1 ⟨z,rfl,hz0',hz1',hR1,hO1⟩
 have R1:=hide hR1
 have O1:=hide ((Only.of_below A0.out).trans hO1:Only R w w1)
 have K1:=hide ((hO1.block w.heap.size (by omega) (by omega)).trans K0.out)
 have hs1:=hO1.size
 clear hR1 hO1 A0 K0
 by_cases hk:z=0
 ·subst hk
  go_wp2_with fail
  refine (pick_any R _ 3 _ R1.out (by omega) (by omega) (by omega)).mono ?_
  rintro e w2 ⟨z2,rfl,h20,h21,hR2,hO2⟩
  obtain ⟨m2,rfl⟩:=Int.eq_ofNat_of_zero_le h20
  have R2:=hide hR2
  have O2:=hide (O1.out.trans hO2)
  have K2:=hide ((hO2.block w.heap.size (by omega) (by omega)).trans K1.out)
  have hs2:=hO2.size
  clear hR2 hO2 R1 O1 K1
  have hw1:IntKind.i64.wrap (60+(m2:Int))=60+(m2:Int):=by rw [IntKind.wrap_i64];omega
  have hw2:IntKind.i64.wrap (60+(m2:Int) - 1)=59+(m2:Int):=by rw [IntKind.wrap_i64];omega
  go_wp2_with fail
  have BL:=hide ((Below.refl w2.heap.size w2).alloc lr (.cells #[.string ⟨#[97]⟩,.string ⟨#[110,111,110,101]⟩,.string ⟨#[116,48,48,48]⟩] 9))
  have RL:=hide (R2.out.below BL.out lr)
  have OL:=hide (O2.out.then (BL.out.mono (by omega)))
  have KL:=hide ((BL.out.block w.heap.size (by omega)).trans K2.out)
  have hl3:(w2.alloc (.cells #[.string ⟨#[97]⟩,.string ⟨#[110,111,110,101]⟩,.string ⟨#[116,48,48,48]⟩] 9)).heap[w2.heap.size]?=some (.cells #[.string ⟨#[97]⟩,.string ⟨#[110,111,110,101]⟩,.string ⟨#[116,48,48,48]⟩] 9 (0,0)):=heap_alloc_new w2 _
  have hs3:=heap_in hl3
  have HL3:=hide hl3
  clear BL hl3 R2 O2 K2
  generalize w2.alloc (.cells #[.string ⟨#[97]⟩,.string ⟨#[110,111,110,101]⟩,.string ⟨#[116,48,48,48]⟩] 9)=WL at RL OL KL HL3 hs3 ⊢
  refine (pick_any R _ 3 _ RL.out (by omega) (by omega) (by omega)).mono ?_
  rintro e w3 ⟨z3,rfl,h30,h31,hR3,hO3⟩
  obtain ⟨m3,rfl⟩:=Int.eq_ofNat_of_zero_le h30
  have hm3:m3<3:=by omega
  have R3:=hide hR3
  have O3:=hide (OL.out.trans hO3)
  have K3:=hide ((hO3.block w.heap.size (by omega) (by omega)).trans KL.out)
  obtain ⟨sx,hcx,hsx⟩:=lit3_at ((hO3.block w2.heap.size hs3 (by omega)).trans HL3.out) (Nat.le_of_ble_eq_true rfl) (Nat.le_of_ble_eq_true rfl) (Nat.le_of_ble_eq_true rfl) m3 hm3
  have hs4:=hO3.size
  clear hR3 hO3 HL3 RL OL KL
  go_wp2_with fail
  refine (l2Chain_any (59+m2) (by omega) sx hsx _).mono ?_
  rintro e w4 ⟨a0,n0,c0,f0,a1,n1,c1,f1,rfl,hH4,hB4⟩
  have H4:=hide (hH4.mono (show w.heap.size+1≤w3.heap.size by omega))
  have R4:=hide (R3.out.below hB4 lr)
  have O4:=hide (O3.out.then (hB4.mono (by omega)))
  have K4:=hide ((hB4.block w.heap.size (by omega)).trans K3.out)
  clear hH4 hB4 R3 O3 K3 hcx
  have kr:=K4.out
  have r0:w4.cell? ⟨w.heap.size,0,none⟩=some (.slice none 0 0):=by simp [World.cell?,kr]
  have r1:w4.cell? ⟨w.heap.size,1,none⟩=some (.slice none 0 0):=by simp [World.cell?,kr]
  have f0:w4.frozen? ⟨w.heap.size,0,none⟩=false:=by simp [World.frozen?,kr]
  have f1:w4.frozen? ⟨w.heap.size,1,none⟩=false:=by simp [World.frozen?,kr]
  have l0:=heap_in kr
  clear kr
  have BE:=hide (((Below.refl w.heap.size w4).setCell (p:=⟨w.heap.size,0,none⟩) lr (.slice a0 n0 c0)).setCell (p:=⟨w.heap.size,1,none⟩) lr (.slice a1 n1 c1))
  have HE2:=hide ((H4.out.agr ((agr_set (j:=0) (Nat.lt_succ_self w.heap.size) (.slice a0 n0 c0)).trans (agr_set (j:=1) (Nat.lt_succ_self w.heap.size) (.slice a1 n1 c1)))).mono (Nat.le_succ w.heap.size))
  go_wp2
  exact bodyPost_ret (v:=.agg #[.slice a0 n0 c0,.slice a1 n1 c1]) (by simp [results,Tryz.results30,go_sem,r0,r1]) rfl ⟨_,_,_,_,_,_,_,_,rfl,HE2.out,_,by omega,R4.out.low BE.out hlow,O4.out.then BE.out⟩
 ·go_wp2_with fail
  refine (l2Draw_any R _ _ R1.out (by omega)).mono ?_
  rintro e w2 ⟨LS,RT,v0,v1,rfl,hs,ht,hG,hl0,hl1,q2,hq2,hR2,hO2⟩
  obtain ⟨a0,c0,rfl⟩:=own_slice hs
  obtain ⟨a1,c1,rfl⟩:=own_slice ht.own
  obtain ⟨hh,hg⟩:=dsp_hsp hs ht hG (by omega) (by omega)
  have H2:=hide (hh.mono (show w.heap.size+1≤w1.heap.size+2 by omega))
  have HG:=hide hg
  have R2:=hide hR2
  have O2:=hide (O1.out.trans hO2)
  have K2:=hide ((hO2.block w.heap.size (by omega) (by omega)).trans K1.out)
  have hs2:=hO2.size
  clear hs ht hG hh hg hR2 hO2 R1 O1 K1
  by_cases hk3:z<3
  ·have BS:=hide ((Below.refl w2.heap.size w2).alloc lr (.cells #[.slice a0 LS.length c0,.slice a1 RT.length c1] 26))
   have H2:=hide (H2.out.agr (agr_below BS.out lr))
   have R2:=hide (R2.out.below BS.out lr)
   have O2:=hide (O2.out.then (BS.out.mono (by omega)))
   have K2:=hide ((BS.out.block w.heap.size (by omega)).trans K2.out)
   have hs3:=BS.out.size
   clear BS
   go_wp2_with fail
   generalize w2.alloc (.cells #[.slice a0 LS.length c0,.slice a1 RT.length c1] 26)=WS at H2 R2 O2 K2 hs3 ⊢
   refine (l2Spoil_any R q2 (w.heap.size+1) LS.length c0 RT.length c1 a0 _ a1 _ _ R2.out (by omega) H2.out HG.out (by omega) (by omega)).mono ?_
   rintro e w3 ⟨b0,m0,d0,g0,b1,m1,d1,g1,rfl,hH3,q3,hq3,hR3,hO3⟩
   have H3:=hide (hH3.mono (show w.heap.size+1≤WS.heap.size by omega))
   have R3:=hide hR3
   have O3:=hide (O2.out.trans hO3)
   have K3:=hide ((hO3.block w.heap.size (by omega) (by omega)).trans K2.out)
   clear hH3 hR3 hO3 H2 R2 O2 K2 HG
   have kr:=K3.out
   have r0:w3.cell? ⟨w.heap.size,0,none⟩=some (.slice none 0 0):=by simp [World.cell?,kr]
   have r1:w3.cell? ⟨w.heap.size,1,none⟩=some (.slice none 0 0):=by simp [World.cell?,kr]
   have f0:w3.frozen? ⟨w.heap.size,0,none⟩=false:=by simp [World.frozen?,kr]
   have f1:w3.frozen? ⟨w.heap.size,1,none⟩=false:=by simp [World.frozen?,kr]
   have l0:=heap_in kr
   clear kr
   have BE:=hide (((Below.refl w.heap.size w3).setCell (p:=⟨w.heap.size,0,none⟩) lr (.slice b0 m0 d0)).setCell (p:=⟨w.heap.size,1,none⟩) lr (.slice b1 m1 d1))
   have HE2:=hide ((H3.out.agr ((agr_set (j:=0) (Nat.lt_succ_self w.heap.size) (.slice b0 m0 d0)).trans (agr_set (j:=1) (Nat.lt_succ_self w.heap.size) (.slice b1 m1 d1)))).mono (Nat.le_succ w.heap.size))
   go_wp2
   exact bodyPost_ret (v:=.agg #[.slice b0 m0 d0,.slice b1 m1 d1]) (by simp [results,Tryz.results30,go_sem,r0,r1]) rfl ⟨_,_,_,_,_,_,_,_,rfl,HE2.out,_,by omega,R3.out.low BE.out hlow,O3.out.then BE.out⟩
  ·clear HG
   have kr:=K2.out
   have r0:w2.cell? ⟨w.heap.size,0,none⟩=some (.slice none 0 0):=by simp [World.cell?,kr]
   have r1:w2.cell? ⟨w.heap.size,1,none⟩=some (.slice none 0 0):=by simp [World.cell?,kr]
   have f0:w2.frozen? ⟨w.heap.size,0,none⟩=false:=by simp [World.frozen?,kr]
   have f1:w2.frozen? ⟨w.heap.size,1,none⟩=false:=by simp [World.frozen?,kr]
   have l0:=heap_in kr
   clear kr
   have hzz:((w2.setCell ⟨w.heap.size,0,none⟩ (.slice a0 LS.length c0)).setCell ⟨w.heap.size,1,none⟩ (.slice a1 RT.length c1)).heap.size=w2.heap.size:=by simp
   have BE:=hide ((((Below.refl w.heap.size w2).setCell (p:=⟨w.heap.size,0,none⟩) lr (.slice a0 LS.length c0)).setCell (p:=⟨w.heap.size,1,none⟩) lr (.slice a1 RT.length c1)).alloc (by omega) (.cells #[.slice a0 LS.length c0,.slice a1 RT.length c1] 26))
   have HE2:=hide ((H2.out.agr (((agr_set (j:=0) (Nat.lt_succ_self w.heap.size) (.slice a0 LS.length c0)).trans (agr_set (j:=1) (Nat.lt_succ_self w.heap.size) (.slice a1 RT.length c1))).trans (agr_below ((Below.refl _ _).alloc lr (.cells #[.slice a0 LS.length c0,.slice a1 RT.length c1] 26)) lr))).mono (Nat.le_succ w.heap.size))
   clear hzz
   go_wp2
   exact bodyPost_ret (v:=.agg #[.slice a0 LS.length c0,.slice a1 RT.length c1]) (by simp [results,Tryz.results30,go_sem,r0,r1,l0]) rfl ⟨_,_,_,_,_,_,_,_,rfl,HE2.out,_,by omega,R2.out.low BE.out hlow,O2.out.then BE.out⟩
theorem l2AskedName_any (R p b0 n0 c0 n1 c1:Nat)(a0:Option Addr)(f0:Nat→Source)(a1:Option Addr)(f1:Nat→Target)(w:World)(hR:Rd w R p)(hp:p≤50000)(hb:R<b0)(hH:HSp b0 w a0 n0 f0 a1 n1 f1) :
  Calls Tryz.prog 33 #[.pointer (some ⟨R,0,none⟩),.agg #[.slice a0 n0 c0,.slice a1 n1 c1]] w fun e w'=>∃ t:ByteArray,e=.returned (.string t)∧∃ q:Nat,q≤p+3∧Rd w' R q∧Only R w w':=by
 have HR:=hide hR
 have hlow:=hR.lt
 have hn1:=hH.hn1
 have HH:=hide hH
 clear hR hH
 have A0:=hide ((Below.refl w.heap.size w).alloc lr (.cells #[.slice a0 n0 c0,.slice a1 n1 c1] 26))
 have K0:Hid ((w.alloc (.cells #[.slice a0 n0 c0,.slice a1 n1 c1] 26)).heap[w.heap.size]?=some (.cells #[.slice a0 n0 c0,.slice a1 n1 c1] 26 (0,0))):=heap_alloc_new w _
 have hz0:(w.alloc (.cells #[.slice a0 n0 c0,.slice a1 n1 c1] 26)).heap.size=w.heap.size+1:=by simp
 by_cases hn:0<(n1:Int)
 ·go_enter Tryz.func33,Tryz.ntmps33
  go_wp2_with fail
  generalize w.alloc (.cells #[.slice a0 n0 c0,.slice a1 n1 c1] 26)=W0 at A0 K0 hz0 ⊢
  have R0:=hide (HR.out.below A0.out lr)
  have O0:Hid (Only R w W0):=Only.of_below A0.out
  refine (pick_any R p 8 _ R0.out (by omega) (by omega) (by omega)).mono ?_
  rintro e w1 ⟨z,rfl,hz0',hz1',hR1,hO1⟩
  have R1:=hide hR1
  have O1:=hide (O0.out.trans hO1)
  have K1:=hide ((hO1.block w.heap.size (by omega) (by omega)).trans K0.out)
  clear hR1 hO1 R0 O0 K0 A0
  have kb:=K1.out
  have x1:w1.cell? ⟨w.heap.size,1,none⟩=some (.slice a1 n1 c1):=by simp [World.cell?,kb]
  have l1:=heap_in kb
  clear kb
  by_cases hz:0<z
  ·go_wp2_with fail
   refine wp_region_N (fun V=>V.cell? ⟨w.heap.size,1,none⟩=some (.slice a1 n1 c1)) 10 (by as_aux_lemma=>kernel_rfl) ?_
   have HS:Hid (w1.drew.cell? ⟨w.heap.size,1,none⟩=some (.slice a1 n1 c1)):=x1
   refine anyN_take (i:=0) (v:=?_) rfl (by as_aux_lemma=>kernel_rfl) (by as_aux_lemma=>kernel_rfl) (by as_aux_lemma=>kernel_rfl) (by as_aux_lemma=>kernel_rfl) (fun _ _ _ h=>h) rfl ?_ HS.out ?_
   rotate_left
   ·(intro wz s0;go_simp)
    (try with_reducible rfl)
   (try simp only [Act.put,List.setIfInBounds_toArray,List.set_cons_zero,List.set_cons_succ])
   refine anyN_take (i:=1) (v:=?_) rfl (by as_aux_lemma=>kernel_rfl) (by as_aux_lemma=>kernel_rfl) (by as_aux_lemma=>kernel_rfl) (by as_aux_lemma=>kernel_rfl) (fun _ _ _ h=>h) rfl ?_ HS.out ?_
   rotate_left
   ·(intro wz s0;go_simp)
    (try with_reducible rfl)
   (try simp only [Act.put,List.setIfInBounds_toArray,List.set_cons_zero,List.set_cons_succ])
   refine anyN_take (i:=2) (v:=?_) rfl (by as_aux_lemma=>kernel_rfl) (by as_aux_lemma=>kernel_rfl) (by as_aux_lemma=>kernel_rfl) (by as_aux_lemma=>kernel_rfl) (fun _ _ _ h=>h) rfl ?_ HS.out ?_
   rotate_left
   ·(intro wz s0;go_simp)
    (try with_reducible rfl)
   (try simp only [Act.put,List.setIfInBounds_toArray,List.set_cons_zero,List.set_cons_succ])
   refine anyN_take (i:=3) (v:=?_) rfl (by as_aux_lemma=>kernel_rfl) (by as_aux_lemma=>kernel_rfl) (by as_aux_lemma=>kernel_rfl) (by as_aux_lemma=>kernel_rfl) (fun _ _ _ h=>h) rfl ?_ HS.out ?_
   rotate_left
   ·(intro wz s0;go_simp)
    (try with_reducible rfl)
   (try simp only [Act.put,List.setIfInBounds_toArray,List.set_cons_zero,List.set_cons_succ])
   refine anyN_take (i:=4) (v:=?_) rfl (by as_aux_lemma=>kernel_rfl) (by as_aux_lemma=>kernel_rfl) (by as_aux_lemma=>kernel_rfl) (by as_aux_lemma=>kernel_rfl) (fun _ _ _ h=>h) rfl ?_ HS.out ?_
   rotate_left
   ·(intro wz s0;go_simp)
    (try with_reducible rfl)
   (try simp only [Act.put,List.setIfInBounds_toArray,List.set_cons_zero,List.set_cons_succ])
   refine anyN_take (i:=5) (v:=?_) rfl (by as_aux_lemma=>kernel_rfl) (by as_aux_lemma=>kernel_rfl) (by as_aux_lemma=>kernel_rfl) (by as_aux_lemma=>kernel_rfl) (fun _ _ _ h=>h) rfl ?_ HS.out ?_
   rotate_left
   ·(intro wz s0;go_simp)
    (try with_reducible rfl)
   (try simp only [Act.put,List.setIfInBounds_toArray,List.set_cons_zero,List.set_cons_succ])
   refine anyN_one (i:=6) rfl (by as_aux_lemma=>kernel_rfl) (fun K hK=>?_)
   go_simp
   go_at_call 32
   refine (pick_any R _ (n1:Int) _ (R1.out.below (Below.refl _ _).drew lr) (by omega) (by omega) (by omega)).mono ?_
   rintro e w3 ⟨z3,rfl,h30,h31,hR3,hO3⟩
   obtain ⟨m3,rfl⟩:=Int.eq_ofNat_of_zero_le h30
   have OO:Hid (Only R w1 w3):=(Only.of_below (Below.refl _ _).drew).trans hO3
   have R3:=hide hR3
   have O3:=hide (O1.out.trans OO.out)
   have hm3:m3<n1:=by omega
   clear hR3 hO3 HS
   have HS:Hid (w3.cell? ⟨w.heap.size,1,none⟩=some (.slice a1 n1 c1)):=(OO.out.cell w.heap.size 1 l1 (by omega)).trans x1
   rcases (HH.out.sl w3 (O3.out.agr hb)).2 with h0 | ⟨tb,tof,rfl,hrow⟩
   ·omega
   have kn:=(hrow.2 m3 hm3).1
   have hl:=hrow.1
   clear hrow x1
   refine hK.out _ _ (fun _=>HS.out) ?_
   clear hK K
   (try simp only [Act.put,List.setIfInBounds_toArray,List.set_cons_zero,List.set_cons_succ])
   refine anyN_one (i:=7) rfl (by as_aux_lemma=>kernel_rfl) (fun K hK=>?_)
   go_simp
   refine hK.out _ _ (fun _=>HS.out) ?_
   clear hK K
   (try simp only [Act.put,List.setIfInBounds_toArray,List.set_cons_zero,List.set_cons_succ])
   refine anyN_one (i:=8) rfl (by as_aux_lemma=>kernel_rfl) (fun K hK=>?_)
   go_simp
   refine hK.out _ _ (fun _=>HS.out) ?_
   clear hK K
   (try simp only [Act.put,List.setIfInBounds_toArray,List.set_cons_zero,List.set_cons_succ])
   refine anyN_one (i:=9) rfl (by as_aux_lemma=>kernel_rfl) (fun K hK=>?_)
   go_simp
   refine hK.out _ _ (fun _=>HS.out) ?_
   clear hK K
   (try simp only [Act.put,List.setIfInBounds_toArray,List.set_cons_zero,List.set_cons_succ])
   refine anyN_one (i:=10) rfl (by as_aux_lemma=>kernel_rfl) (fun K hK=>?_)
   go_simp
   refine hK.out _ _ (fun _=>HS.out) ?_
   clear hK K
   (try simp only [Act.put,List.setIfInBounds_toArray,List.set_cons_zero,List.set_cons_succ])
   refine anyN_done (by as_aux_lemma=>kernel_rfl) ?_ _
   go_wp2
   go_ret
   exact ⟨_,rfl,_,by omega,R3.out,O3.out⟩
  ·go_wp2_with fail
   have BL:=hide ((Below.refl w1.heap.size w1).alloc lr (.cells #[.string ⟨#[97]⟩,.string ⟨#[110,111,110,101]⟩,.string ⟨#[]⟩,.string ⟨#[120,32,121]⟩,.string ⟨#[116,48]⟩] 9))
   have RL:=hide (R1.out.below BL.out lr)
   have OL:=hide (O1.out.then (BL.out.mono (by omega)))
   have hl3:(w1.alloc (.cells #[.string ⟨#[97]⟩,.string ⟨#[110,111,110,101]⟩,.string ⟨#[]⟩,.string ⟨#[120,32,121]⟩,.string ⟨#[116,48]⟩] 9)).heap[w1.heap.size]?=some (.cells #[.string ⟨#[97]⟩,.string ⟨#[110,111,110,101]⟩,.string ⟨#[]⟩,.string ⟨#[120,32,121]⟩,.string ⟨#[116,48]⟩] 9 (0,0)):=heap_alloc_new w1 _
   have hs3:=heap_in hl3
   have HL3:=hide hl3
   clear BL hl3
   generalize w1.alloc (.cells #[.string ⟨#[97]⟩,.string ⟨#[110,111,110,101]⟩,.string ⟨#[]⟩,.string ⟨#[120,32,121]⟩,.string ⟨#[116,48]⟩] 9)=WL at RL OL HL3 hs3 ⊢
   refine (pick_any R _ 5 _ RL.out (by omega) (by omega) (by omega)).mono ?_
   rintro e w3 ⟨z3,rfl,h30,h31,hR3,hO3⟩
   obtain ⟨m3,rfl⟩:=Int.eq_ofNat_of_zero_le h30
   have hm3:m3<5:=by omega
   have R3:=hide hR3
   have O3:=hide (OL.out.trans hO3)
   obtain ⟨sx,hcx⟩:=lit5_at ((hO3.block (w1.heap.size) hs3 (by omega)).trans HL3.out) m3 hm3
   clear hR3 hO3 HL3 RL OL
   go_wp2
   go_ret
   exact ⟨sx,rfl,_,by omega,R3.out,O3.out⟩
 ·go_enter Tryz.func33,Tryz.ntmps33
  go_wp2_with fail
  generalize w.alloc (.cells #[.slice a0 n0 c0,.slice a1 n1 c1] 26)=W0 at A0 K0 hz0 ⊢
  have R0:=hide (HR.out.below A0.out lr)
  have O0:Hid (Only R w W0):=Only.of_below A0.out
  have l0:=heap_in K0.out
  have BL:=hide ((Below.refl W0.heap.size W0).alloc lr (.cells #[.string ⟨#[97]⟩,.string ⟨#[110,111,110,101]⟩,.string ⟨#[]⟩,.string ⟨#[120,32,121]⟩,.string ⟨#[116,48]⟩] 9))
  have RL:=hide (R0.out.below BL.out lr)
  have OL:=hide (O0.out.then (BL.out.mono (by omega)))
  have hl3:(W0.alloc (.cells #[.string ⟨#[97]⟩,.string ⟨#[110,111,110,101]⟩,.string ⟨#[]⟩,.string ⟨#[120,32,121]⟩,.string ⟨#[116,48]⟩] 9)).heap[w.heap.size+1]?=some (.cells #[.string ⟨#[97]⟩,.string ⟨#[110,111,110,101]⟩,.string ⟨#[]⟩,.string ⟨#[120,32,121]⟩,.string ⟨#[116,48]⟩] 9 (0,0)):=(by rw [← hz0];exact heap_alloc_new W0 _)
  have hs3:=heap_in hl3
  have HL3:=hide hl3
  clear BL hl3
  generalize W0.alloc (.cells #[.string ⟨#[97]⟩,.string ⟨#[110,111,110,101]⟩,.string ⟨#[]⟩,.string ⟨#[120,32,121]⟩,.string ⟨#[116,48]⟩] 9)=WL at RL OL HL3 hs3 ⊢
  refine (pick_any R _ 5 _ RL.out (by omega) (by omega) (by omega)).mono ?_
  rintro e w3 ⟨z3,rfl,h30,h31,hR3,hO3⟩
  obtain ⟨m3,rfl⟩:=Int.eq_ofNat_of_zero_le h30
  have hm3:m3<5:=by omega
  have R3:=hide hR3
  have O3:=hide (OL.out.trans hO3)
  obtain ⟨sx,hcx⟩:=lit5_at ((hO3.block (w.heap.size+1) hs3 (by omega)).trans HL3.out) m3 hm3
  clear hR3 hO3 HL3 RL OL
  go_wp2
  go_ret
  exact ⟨sx,rfl,_,by omega,R3.out,O3.out⟩
end Go.Proofs.YtpacbfkbhhnblaaGreatDoor.Vp
