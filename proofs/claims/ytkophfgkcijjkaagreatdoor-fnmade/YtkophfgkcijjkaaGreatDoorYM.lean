import Derived.Test.YtkophfgkcijjkaaGreatDoorYK
import Derived.Test.YtkophfgkcijjkaaGreatDoorYL
import Derived.Deep.CutBlock
set_option maxRecDepth 100000
set_option maxHeartbeats 8000000
namespace Go.Proofs.YtkophfgkcijjkaaGreatDoor.Vp
open RowKit Ca
theorem pd (R p b0 n0 c0 n1 c1:Nat)(a0:Option Addr)(f0:Nat→Source)(a1:Option Addr)(f1:Nat→Target)(w:World)(hR:Rd w R p)(hp:p≤19000)(hH:HSp b0 w a0 n0 f0 a1 n1 f1)(hg:∀ i,i<n1→1≤(f1 i).actN∧(f1 i).actN≤200)(hm0:n0≤100)(hm1:n1≤100) :
  Calls Tryz.prog 125 #[.pointer (some ⟨R,0,none⟩),.agg #[.slice a0 n0 c0,.slice a1 n1 c1]] w fun e w'=>DH w R (p+1100) e w':=by
 have HR:=ae hR
 have hlow:=hR.lt
 obtain ⟨hs,ht⟩:=hH.sl w (Agr.refl _ _)
 have HF:=ae hH.fit
 have HG:=ae hg
 have HS:=ae hs
 have HT:=ae ht
 clear hs ht hH hg hR
 obtain ⟨i0',hi,hy0,hy1,hy2⟩:=info_parts gO
 obtain ⟨i1',hj,hz0,hz1,hz2⟩:=info_parts fK
 have A0:=ae (((Below.refl w.heap.size w).alloc lr (.cells #[.slice a0 n0 c0,.slice a1 n1 c1] 26)).alloc (by simp) (.cells #[.slice none 0 0,.slice none 0 0] 26))
 have hzA:((w.alloc (.cells #[.slice a0 n0 c0,.slice a1 n1 c1] 26)).alloc (.cells #[.slice none 0 0,.slice none 0 0] 26)).heap.size=w.heap.size+2:=by simp
 have KR:Hid (((w.alloc (.cells #[.slice a0 n0 c0,.slice a1 n1 c1] 26)).alloc (.cells #[.slice none 0 0,.slice none 0 0] 26)).heap[w.heap.size+1]?=some (.cells #[.slice none 0 0,.slice none 0 0] 26 (0,0))):=by
  have h2:=heap_alloc_new (w.alloc (.cells #[.slice a0 n0 c0,.slice a1 n1 c1] 26)) (.cells #[.slice none 0 0,.slice none 0 0] 26)
  rw [show (w.alloc (.cells #[.slice a0 n0 c0,.slice a1 n1 c1] 26)).heap.size=w.heap.size+1 by simp] at h2
  exact h2
 go_enter Tryz.func125,Tryz.ntmps125
 go_wp2_with fail
 generalize (w.alloc (.cells #[.slice a0 n0 c0,.slice a1 n1 c1] 26)).alloc (.cells #[.slice none 0 0,.slice none 0 0] 26)=W at A0 hzA KR ⊢
 refine (mG a0 n0 c0 f0 a1 n1 c1 f1 ⟨#[]⟩ W (by omega) (by omega) (HS.out.below A0.out lr) (HT.out.below A0.out lr) (fun i hi=>by have:=(HF.out i hi).1;unfold bh;omega)).mono ?_
 rintro e w1 ⟨v0,v1,RT',rfl,ho1,ht1,hM,hB1⟩
 obtain ⟨a2,c2,rfl⟩:=bz ho1
 obtain ⟨a5,c5,rfl⟩:=bz ht1.own
 have G1:=ae (vQ hM HF.out)
 have N1:=ae (vR hM HG.out)
 have hl1:=rA hM
 have hl0:=lK f0 ⟨#[]⟩ n0
 clear hM HS HT HF HG
 generalize dp f0 ⟨#[]⟩ n0=LS at ho1 hl0 ⊢
 have hsz:=hB1.size
 have X1:=ae (pK (rr:=w.heap.size+1) (base:=w.heap.size+2) ((hB1.block _ (by omega)).trans KR.out) (by omega) (by omega) (by omega) ho1 ht1)
 have B1:=ae ((A0.out.trans (hB1.mono (by omega))).alloc (by omega) (.cells #[.slice a2 LS.length c2,.slice a5 RT'.length c5] 26))
 clear ho1 ht1 hB1 A0 KR
 have R1:=ae (HR.out.low B1.out (by omega))
 have O1:Hid (Only R w (w1.alloc (.cells #[.slice a2 LS.length c2,.slice a5 RT'.length c5] 26))):=Only.of_below B1.out
 go_wp2_with fail
 generalize w1.alloc (.cells #[.slice a2 LS.length c2,.slice a5 RT'.length c5] 26)=W2 at X1 B1 R1 O1 ⊢
 refine (ay R p 8 _ R1.out (by omega) (by omega) (by omega)).mono ?_
 rintro e w2 ⟨z,rfl,hz0',hz1',hR2,hO2⟩
 have X2:=ae (X1.out.only hO2 (by omega))
 have R2:=ae hR2
 have O2:=ae (O1.out.trans hO2)
 clear hR2 hO2 X1 R1 O1 B1 hzA HR
 obtain ⟨kc0,kc1⟩:=X2.out.cells
 obtain ⟨kf0,kf1⟩:=X2.out.open
 have hxl:=X2.out.lt
 go_upto_block 0 with fail
 go_cut [6,7] (fun _ _ wx=>∃ (b0:Option Addr) (m0 k0:Nat) (g0:Nat→Source) (b1:Option Addr) (m1 k1:Nat) (g1:Nat→Target) (q':Nat),q'≤p+1100∧Hid (wx.heap[w1.heap.size]?=some (.cells #[.slice b0 m0 k0,.slice b1 m1 k1] 26 (0,0)))∧Hid (wx.heap[w.heap.size+1]?=some (.cells #[.slice none 0 0,.slice none 0 0] 26 (0,0)))∧Hid (HSp (w.heap.size+2) wx b0 m0 g0 b1 m1 g1)∧Hid (Rd wx R q')∧Hid (Only R w wx))
 case first =>
  have hcz:z=0∨z=1∨z=2∨z=3∨z=4∨z=5∨z=6∨z=7:=by omega
  rcases hcz with rfl | rfl | rfl | rfl | rfl | rfl | rfl | rfl
  ·go_wp2_with fail
   have hxi2:=X2.out.hi
   have SB:Hid (∀ V:World,V.heap[w1.heap.size]?=some (.cells #[.slice a2 LS.length c2,.slice a5 RT'.length c5] 26 (0,0))→V.heap[w1.heap.size]?=some (.cells #[.slice a2 LS.length c2,.slice a5 RT'.length c5] 26 (0,0))∧V.cell? ⟨w1.heap.size,0,none⟩=some (.slice a2 LS.length c2)):=fun V h=>⟨h,by simp [World.cell?,h]⟩
   refine aN (fun V=>V.heap[w1.heap.size]?=some (.cells #[.slice a2 LS.length c2,.slice a5 RT'.length c5] 26 (0,0))∧V.cell? ⟨w1.heap.size,0,none⟩=some (.slice a2 LS.length c2)) 11 (by as_aux_lemma=>kernel_rfl) ?_
   have HS:=ae (SB.out w2.drew X2.out.box)
   iterate 2
    refine aF 0 (v:=?_) rfl rfl (by as_aux_lemma=>kernel_rfl) (fun _ _ _ h=>h) rfl ?_ HS.out ?_
    rotate_left
    ·(intro wz hSw;obtain ⟨s0,s1⟩:=hSw;go_simp)
     (try with_reducible rfl)
    (try simp only [Act.put,nzL])
   refine aF 3 (v:=?_) rfl rfl (by as_aux_lemma=>kernel_rfl) (fun _ _ _ h=>h) rfl ?_ HS.out ?_
   rotate_left
   ·(intro wz hSw;obtain ⟨s0,s1⟩:=hSw;go_simp)
    (try with_reducible rfl)
   (try simp only [Act.put,nzL])
   refine tI (i:=2) (j:=4) rfl rfl (by as_aux_lemma=>kernel_rfl) (fun K hK=>?_) (fun K hK=>?_)
   ·go_simp
    have BQ:=ae (((Below.refl w2.heap.size w2).alloc lr (.cells #[.string ⟨#[97]⟩,.string ⟨#[122,122]⟩,.string ⟨#[]⟩,.string ⟨#[120,32,121]⟩,.string ⟨#[116,48]⟩] 9)).drew)
    have XQ:=ae (X2.out.below BQ.out lr)
    have RQ:=ae (R2.out.below BQ.out lr)
    have OQ:=ae (O2.out.then (BQ.out.mono (by omega)))
    have hl5:=heap_alloc_new w2 (.cells #[.string ⟨#[97]⟩,.string ⟨#[122,122]⟩,.string ⟨#[]⟩,.string ⟨#[120,32,121]⟩,.string ⟨#[116,48]⟩] 9)
    have HL5:Hid ((w2.alloc (.cells #[.string ⟨#[97]⟩,.string ⟨#[122,122]⟩,.string ⟨#[]⟩,.string ⟨#[120,32,121]⟩,.string ⟨#[116,48]⟩] 9)).drew.heap[w2.heap.size]?=some (.cells #[.string ⟨#[97]⟩,.string ⟨#[122,122]⟩,.string ⟨#[]⟩,.string ⟨#[120,32,121]⟩,.string ⟨#[116,48]⟩] 9 (0,0))):=hl5
    have hs5:w2.heap.size<(w2.alloc (.cells #[.string ⟨#[97]⟩,.string ⟨#[122,122]⟩,.string ⟨#[]⟩,.string ⟨#[120,32,121]⟩,.string ⟨#[116,48]⟩] 9)).drew.heap.size:=az hl5
    clear hl5 HS
    refine hK.out _ _ (fun _=>SB.out _ XQ.out.box) ?_
    clear hK K
    (try simp only [Act.put,nzL])
    refine aj (i:=4) rfl (by as_aux_lemma=>kernel_rfl) (fun K hK=>?_)
    go_simp
    go_at_call 51
    refine (ay R _ 5 _ RQ.out (by omega) (by omega) (by omega)).mono ?_
    rintro e w3 ⟨z3,rfl,h30,h31,hR3,hO3⟩
    obtain ⟨m3,rfl⟩:=Int.eq_ofNat_of_zero_le h30
    have X3:=ae (XQ.out.only hO3 (by omega))
    have R3:=ae hR3
    have O3:=ae (OQ.out.trans hO3)
    obtain ⟨sx,hcx⟩:=jm ((hO3.block w2.heap.size hs5 (by omega)).trans HL5.out) m3 (by omega)
    clear hR3 hO3 HL5 XQ RQ OQ
    refine hK.out _ _ (fun _=>SB.out w3 X3.out.box) ?_
    clear hK K SB
    (try simp only [Act.put,nzL])
    have hm5:m3<5:=by omega
    have SQ:Hid (∀ V:World,(∀ j,j<w3.heap.size→some j≠(Value.slice a2 LS.length c2).ownBlock→V.heap[j]?=w3.heap[j]?)→V.heap[w1.heap.size]?=some (.cells #[.slice a2 LS.length c2,.slice a5 RT'.length c5] 26 (0,0))∧V.cell? ⟨w1.heap.size,0,none⟩=some (.slice a2 LS.length c2)):=fun V hV=>by
     have h1:=(hV w1.heap.size X3.out.lt fun e=>by
      obtain ⟨cur,hcur⟩:=cQ X3.out.src _ e.symm
      have h3:=X3.out.box.symm.trans hcur
      cases h3).trans X3.out.box
     exact ⟨h1,by simp [World.cell?,h1]⟩
    have HS:=ae (SQ.out w3 (fun j hj _=>rfl))
    iterate 3
     refine cj 5 rfl rfl (by as_aux_lemma=>kernel_rfl) (fun K hK=>?_)
     go_simp
     refine hK.out _ _ (fun _=>HS.out) ?_
     clear hK K
     (try simp only [Act.put,nzL])
    have hxl3:=X3.out.lt
    have hxi3:=X3.out.hi
    refine aj (i:=8) rfl (by as_aux_lemma=>kernel_rfl) (fun K hK=>?_)
    go_simp
    have AB:=ae ((Below.refl w3.heap.size w3).alloc lr (.cells #[.string sx,.string ⟨#[]⟩] 100))
    have XA:=ae (X3.out.below AB.out lr)
    have hz6:=AB.out.size
    refine hK.out _ _ (fun _=>SQ.out _ (fun j hj _=>AB.out.block j hj)) ?_
    clear hK K HS
    (try simp only [Act.put,nzL])
    refine aj (i:=9) rfl (by as_aux_lemma=>kernel_rfl) (fun K hK=>?_)
    refine aK rfl (.tmp 28) (.tmp 35) 23 rfl (w.heap.size+2) 100 i0' (.agg #[.string ⟨#[]⟩,.string ⟨#[]⟩]) 2 32 Tryz.underlying23 hi hy0 hy1 hy2 rfl (by decide) (.slice a2 LS.length c2) LS.length (LS.flatMap bM) (by simp [Act.eval]) XA.out.src ⟨w3.heap.size,0,none⟩ 1 1 (bM ⟨sx,⟨#[]⟩⟩) (by simp [Act.eval]) rfl (fun j u hu=>eI w3 _ _ _ j u hu) (by simp [bM,Value.oneCell']) (by unfold maxLen;omega) (by omega) (by omega) ?_
    intro v' w7 hown hgrow _
    obtain ⟨a7,c7,rfl⟩:=bz hown
    have S7:=ae (SQ.out w7 (fun j hj hne=>(hgrow.block j (ll hj AB.out.size) hne).trans (AB.out.block j hj)))
    obtain ⟨c8,b8⟩:=XA.out.addS (x:=⟨sx,⟨#[]⟩⟩) hown hgrow
    have X9:=ae c8
    have B9:=ae b8
    clear hown hgrow c8 b8
    refine hK.out _ _ (fun _=>S7.out) ?_
    clear hK K
    (try simp only [Act.put,nzL])
    refine aj (i:=10) rfl (by as_aux_lemma=>kernel_rfl) (fun K hK=>?_)
    go_simp
    refine hK.out _ _ (fun _=>S7.out) ?_
    clear hK K
    (try simp only [Act.put,nzL])
    obtain ⟨s7,t7⟩:=S7.out
    have f7:w7.frozen? ⟨w1.heap.size,0,none⟩=false:=by simp [World.frozen?,s7]
    have l7:=az s7
    clear s7
    refine aj (i:=11) rfl (by as_aux_lemma=>kernel_rfl) (fun K hK=>?_)
    go_simp
    refine hK.out _ _ (fun h=>absurd rfl h) ?_
    clear hK K
    (try simp only [Act.put,nzL])
    refine bc (by as_aux_lemma=>kernel_rfl) ?_ _
    have BB:=ae ((AB.out.mono (show w.heap.size+2≤w3.heap.size by omega)).trans B9.out)
    have R9:=ae (R3.out.low BB.out (by omega))
    have O9:=ae (O3.out.then (BB.out.mono (by omega)))
    clear t7 f7 l7 hcx
    go_simp
    generalize w7.setCell ⟨w1.heap.size,0,none⟩ (.slice a7 (LS.length+1) c7)=W9 at X9 R9 O9 ⊢
    have HB:=ae X9.out.box
    have HQ:=ae X9.out.res
    have HE:=ae (dP X9.out.src (by simp) X9.out.tgt rfl (by rw [List.length_append];exact (by omega:LS.length+1≤300)) (by omega) G1.out)
    clear kc0 kc1 kf0 kf1
    go_wp2
    go_meet
    exact ⟨_,_,_,_,_,_,_,_,_,by omega,HB.out,HQ.out,HE.out,R9.out,O9.out⟩
   ·skip
    go_simp
    go_at_call 51
    refine (ay R _ 5 _ (R2.out.below br.drew lr) (by omega) (by omega) (by omega)).mono ?_
    rintro e w3 ⟨z3,rfl,h30,h31,hR3,hO3⟩
    obtain ⟨m3,rfl⟩:=Int.eq_ofNat_of_zero_le h30
    have OO:Hid (Only R w2 w3):=(Only.of_below br.drew).trans hO3
    have X3:=ae (X2.out.only OO.out (by omega))
    have R3:=ae hR3
    have O3:=ae (O2.out.trans OO.out)
    clear hR3 hO3 OO HS
    have HS:=ae (SB.out w3 X3.out.box)
    refine hK.out _ _ (fun _=>HS.out) ?_
    clear hK K
    (try simp only [Act.put,nzL])
    have hxl4:=X3.out.lt
    refine aj (i:=2) rfl (by as_aux_lemma=>kernel_rfl) (fun K hK=>?_)
    go_simp
    have BQ:=ae ((Below.refl w3.heap.size w3).alloc lr (.cells #[.string ⟨#[97]⟩,.string ⟨#[122,122]⟩,.string ⟨#[]⟩,.string ⟨#[120,32,121]⟩,.string ⟨#[116,48]⟩] 9))
    have X4:=ae (X3.out.below BQ.out lr)
    have R4:=ae (R3.out.below BQ.out lr)
    have O4:=ae (O3.out.then (BQ.out.mono (by omega)))
    obtain ⟨sx,hcx⟩:=jm (heap_alloc_new w3 (.cells #[.string ⟨#[97]⟩,.string ⟨#[122,122]⟩,.string ⟨#[]⟩,.string ⟨#[120,32,121]⟩,.string ⟨#[116,48]⟩] 9)) m3 (by omega)
    refine hK.out _ _ (fun _=>SB.out _ X4.out.box) ?_
    clear hK K SB BQ HS
    (try simp only [Act.put,nzL])
    generalize w3.alloc (.cells #[.string ⟨#[97]⟩,.string ⟨#[122,122]⟩,.string ⟨#[]⟩,.string ⟨#[120,32,121]⟩,.string ⟨#[116,48]⟩] 9)=WL at X4 R4 O4 hcx ⊢
    have hm5:m3<5:=by omega
    have SQ:Hid (∀ V:World,(∀ j,j<WL.heap.size→some j≠(Value.slice a2 LS.length c2).ownBlock→V.heap[j]?=WL.heap[j]?)→V.heap[w1.heap.size]?=some (.cells #[.slice a2 LS.length c2,.slice a5 RT'.length c5] 26 (0,0))∧V.cell? ⟨w1.heap.size,0,none⟩=some (.slice a2 LS.length c2)):=fun V hV=>by
     have h1:=(hV w1.heap.size X4.out.lt fun e=>by
      obtain ⟨cur,hcur⟩:=cQ X4.out.src _ e.symm
      have h3:=X4.out.box.symm.trans hcur
      cases h3).trans X4.out.box
     exact ⟨h1,by simp [World.cell?,h1]⟩
    have HS:=ae (SQ.out WL (fun j hj _=>rfl))
    iterate 3
     refine cj 5 rfl rfl (by as_aux_lemma=>kernel_rfl) (fun K hK=>?_)
     go_simp
     refine hK.out _ _ (fun _=>HS.out) ?_
     clear hK K
     (try simp only [Act.put,nzL])
    have hxl3:=X4.out.lt
    have hxi3:=X4.out.hi
    refine aj (i:=8) rfl (by as_aux_lemma=>kernel_rfl) (fun K hK=>?_)
    go_simp
    have AB:=ae ((Below.refl WL.heap.size WL).alloc lr (.cells #[.string sx,.string ⟨#[]⟩] 100))
    have XA:=ae (X4.out.below AB.out lr)
    have hz6:=AB.out.size
    refine hK.out _ _ (fun _=>SQ.out _ (fun j hj _=>AB.out.block j hj)) ?_
    clear hK K HS
    (try simp only [Act.put,nzL])
    refine aj (i:=9) rfl (by as_aux_lemma=>kernel_rfl) (fun K hK=>?_)
    refine aK rfl (.tmp 28) (.tmp 35) 23 rfl (w.heap.size+2) 100 i0' (.agg #[.string ⟨#[]⟩,.string ⟨#[]⟩]) 2 32 Tryz.underlying23 hi hy0 hy1 hy2 rfl (by decide) (.slice a2 LS.length c2) LS.length (LS.flatMap bM) (by simp [Act.eval]) XA.out.src ⟨WL.heap.size,0,none⟩ 1 1 (bM ⟨sx,⟨#[]⟩⟩) (by simp [Act.eval]) rfl (fun j u hu=>eI WL _ _ _ j u hu) (by simp [bM,Value.oneCell']) (by unfold maxLen;omega) (by omega) (by omega) ?_
    intro v' w7 hown hgrow _
    obtain ⟨a7,c7,rfl⟩:=bz hown
    have S7:=ae (SQ.out w7 (fun j hj hne=>(hgrow.block j (ll hj AB.out.size) hne).trans (AB.out.block j hj)))
    obtain ⟨c8,b8⟩:=XA.out.addS (x:=⟨sx,⟨#[]⟩⟩) hown hgrow
    have X9:=ae c8
    have B9:=ae b8
    clear hown hgrow c8 b8
    refine hK.out _ _ (fun _=>S7.out) ?_
    clear hK K
    (try simp only [Act.put,nzL])
    refine aj (i:=10) rfl (by as_aux_lemma=>kernel_rfl) (fun K hK=>?_)
    go_simp
    refine hK.out _ _ (fun _=>S7.out) ?_
    clear hK K
    (try simp only [Act.put,nzL])
    obtain ⟨s7,t7⟩:=S7.out
    have f7:w7.frozen? ⟨w1.heap.size,0,none⟩=false:=by simp [World.frozen?,s7]
    have l7:=az s7
    clear s7
    refine aj (i:=11) rfl (by as_aux_lemma=>kernel_rfl) (fun K hK=>?_)
    go_simp
    refine hK.out _ _ (fun h=>absurd rfl h) ?_
    clear hK K
    (try simp only [Act.put,nzL])
    refine bc (by as_aux_lemma=>kernel_rfl) ?_ _
    have BB:=ae ((AB.out.mono (show w.heap.size+2≤WL.heap.size by omega)).trans B9.out)
    have R9:=ae (R4.out.low BB.out (by omega))
    have O9:=ae (O4.out.then (BB.out.mono (by omega)))
    clear t7 f7 l7 hcx
    go_simp
    generalize w7.setCell ⟨w1.heap.size,0,none⟩ (.slice a7 (LS.length+1) c7)=W9 at X9 R9 O9 ⊢
    have HB:=ae X9.out.box
    have HQ:=ae X9.out.res
    have HE:=ae (dP X9.out.src (by simp) X9.out.tgt rfl (by rw [List.length_append];exact (by omega:LS.length+1≤300)) (by omega) G1.out)
    clear kc0 kc1 kf0 kf1
    go_wp2
    go_meet
    exact ⟨_,_,_,_,_,_,_,_,_,by omega,HB.out,HQ.out,HE.out,R9.out,O9.out⟩
  ·by_cases hl:1<(RT'.length:Int)
   ·obtain ⟨gt,rfl⟩:=gy X2.out.tgt.own (by omega)
    obtain ⟨r0,r1,RR,rfl⟩:∃ r0 r1 RR,RT'=r0 :: r1 :: RR:=(by
     match RT',hl with
     | [],h=>simp at h
     | [_],h=>simp at h
     | r0 :: r1 :: RR,_=>exact ⟨r0,r1,RR,rfl⟩)
    have hls:(r0 :: r1 :: RR).length≤100:=by omega
    obtain ⟨ka,kaf⟩:=aX X2.out.tgt.own (j:=0) (u:=.string r0.1.name) rfl
    obtain ⟨kb,kbf⟩:=aX X2.out.tgt.own (j:=1) (u:=.slice (some ⟨r0.2.1,0,none⟩) r0.1.actN r0.2.2) rfl
    obtain ⟨kc,kcf⟩:=aX X2.out.tgt.own (j:=2) (u:=.string r1.1.name) rfl
    obtain ⟨kd,kdf⟩:=aX X2.out.tgt.own (j:=3) (u:=.slice (some ⟨r1.2.1,0,none⟩) r1.1.actN r1.2.2) rfl
    have hgt:=(X2.out.tgt.own.lt gt rfl).2
    generalize hlen:(r0 :: r1 :: RR).length=nt at kc1 X2 hl hls hl1 ⊢
    have HL:=ae hlen
    clear hlen
    have hp0:0<nt:=by omega
    have hp1:1<nt:=by omega
    have BA:=ae ((Below.refl w2.heap.size w2).alloc lr (.cells #[.string r0.1.name,.slice (some ⟨r0.2.1,0,none⟩) r0.1.actN r0.2.2] 104))
    have XA:=ae (X2.out.below BA.out lr)
    have RA:=ae (R2.out.below BA.out lr)
    have hxi2:=X2.out.hi
    have OA:=ae (O2.out.then (BA.out.mono (by omega)))
    have cc:∀ j,(w2.alloc (.cells #[.string r0.1.name,.slice (some ⟨r0.2.1,0,none⟩) r0.1.actN r0.2.2] 104)).cell? ⟨gt,j,none⟩=w2.cell? ⟨gt,j,none⟩:=fun j=>BA.out.cell (p:=⟨gt,j,none⟩) hgt
    have cf:∀ j,(w2.alloc (.cells #[.string r0.1.name,.slice (some ⟨r0.2.1,0,none⟩) r0.1.actN r0.2.2] 104)).frozen? ⟨gt,j,none⟩=w2.frozen? ⟨gt,j,none⟩:=fun j=>BA.out.frozen (p:=⟨gt,j,none⟩) hgt
    have KA:=ae ((cc 0).trans ka)
    have KAF:=ae ((cf 0).trans kaf)
    have KB:=ae ((cc 1).trans kb)
    have KBF:=ae ((cf 1).trans kbf)
    have KC:=ae ((cc 2).trans kc)
    have KCF:=ae ((cf 2).trans kcf)
    have KD:=ae ((cc 3).trans kd)
    have KDF:=ae ((cf 3).trans kdf)
    have KX:Hid ((w2.alloc (.cells #[.string r0.1.name,.slice (some ⟨r0.2.1,0,none⟩) r0.1.actN r0.2.2] 104)).heap[w2.heap.size]?=some (.cells #[.string r0.1.name,.slice (some ⟨r0.2.1,0,none⟩) r0.1.actN r0.2.2] 104 (0,0))):=heap_alloc_new w2 _
    have hgx:gt≠w2.heap.size:=by omega
    have hsA:=BA.out.size
    clear cc cf
    go_wp2_with fail
    generalize w2.alloc (.cells #[.string r0.1.name,.slice (some ⟨r0.2.1,0,none⟩) r0.1.actN r0.2.2] 104)=WA at XA RA OA KA KAF KB KBF KC KCF KD KDF KX hsA ⊢
    have kc1A:=XA.out.cells.2
    clear ka kaf kb kbf kc kcf kd kdf BA kc0 kc1 kf0 kf1
    refine aN (fun V=>V.cell? ⟨w1.heap.size,1,none⟩=some (.slice (some ⟨gt,0,none⟩) nt c5)∧V.cell? ⟨gt,2,none⟩=some (.string r1.1.name)∧V.cell? ⟨gt,3,none⟩=some (.slice (some ⟨r1.2.1,0,none⟩) r1.1.actN r1.2.2)) 7 (by as_aux_lemma=>kernel_rfl) ?_
    have HS:Hid (WA.drew.cell? ⟨w1.heap.size,1,none⟩=some (.slice (some ⟨gt,0,none⟩) nt c5)∧WA.drew.cell? ⟨gt,2,none⟩=some (.string r1.1.name)∧WA.drew.cell? ⟨gt,3,none⟩=some (.slice (some ⟨r1.2.1,0,none⟩) r1.1.actN r1.2.2)):=⟨kc1A,KC.out,KD.out⟩
    iterate 6
     refine aF 0 (v:=?_) rfl rfl (by as_aux_lemma=>kernel_rfl) (fun _ _ _ h=>h) rfl ?_ HS.out ?_
     rotate_left
     ·(intro wz hSw;obtain ⟨s0,s1,s2⟩:=hSw;go_simp)
      (try with_reducible rfl)
     (try simp only [Act.put,nzL])
    refine aj (i:=6) rfl (by as_aux_lemma=>kernel_rfl) (fun K hK=>?_)
    go_simp
    refine hK.out _ _ (fun _=>HS.out) ?_
    clear hK K
    (try simp only [Act.put,nzL])
    have z0:=KAF.out
    have z1:=KBF.out
    have y0:=KA.out
    have y1:=KB.out
    have hgtA:gt<WA.heap.size:=by omega
    refine aj (i:=7) rfl (by as_aux_lemma=>kernel_rfl) (fun K hK=>?_)
    go_simp
    refine hK.out _ _ (fun h=>absurd rfl h) ?_
    clear hK K
    (try simp only [Act.put,nzL])
    refine bc (by as_aux_lemma=>kernel_rfl) ?_ _
    go_simp
    have SW:=ae (((XA.out.sw HL.out.symm).set 0 (.string r1.1.name)).set 1 (.slice (some ⟨r1.2.1,0,none⟩) r1.1.actN r1.2.2)).drew
    have hgb:=(XA.out.tgt.own.lt gt rfl).1
    have BW:=ae ((((Below.refl (w.heap.size+2) WA).setCell (p:=⟨gt,0,none⟩) hgb (.string r1.1.name)).setCell (p:=⟨gt,1,none⟩) hgb (.slice (some ⟨r1.2.1,0,none⟩) r1.1.actN r1.2.2)).drew)
    have kx:((WA.setCell ⟨gt,0,none⟩ (.string r1.1.name)).setCell ⟨gt,1,none⟩ (.slice (some ⟨r1.2.1,0,none⟩) r1.1.actN r1.2.2)).drew.heap[w2.heap.size]?=some (.cells #[.string r0.1.name,.slice (some ⟨r0.2.1,0,none⟩) r0.1.actN r0.2.2] 104 (0,0)):=((Below.heap_setCell _ ⟨gt,1,none⟩ _ w2.heap.size (fun e=>hgx (Eq.symm e))).trans (Below.heap_setCell _ ⟨gt,0,none⟩ _ w2.heap.size (fun e=>hgx (Eq.symm e)))).trans KX.out
    clear HS z0 z1 y0 y1 KA KAF KB KBF KC KCF KD KDF KX kc1A
    generalize ((WA.setCell ⟨gt,0,none⟩ (.string r1.1.name)).setCell ⟨gt,1,none⟩ (.slice (some ⟨r1.2.1,0,none⟩) r1.1.actN r1.2.2)).drew=WB at SW BW kx ⊢
    obtain ⟨kc,kcf⟩:=aX SW.out.own (j:=2) (u:=.string r1.1.name) rfl
    obtain ⟨kd,kdf⟩:=aX SW.out.own (j:=3) (u:=.slice (some ⟨r1.2.1,0,none⟩) r1.1.actN r1.2.2) rfl
    have kbx:=SW.out.box
    have kv:WB.cell? ⟨w1.heap.size,1,none⟩=some (.slice (some ⟨gt,0,none⟩) nt c5):=by simp [World.cell?,kbx]
    have x0:WB.cell? ⟨w2.heap.size,0,none⟩=some (.string r0.1.name):=by simp [World.cell?,kx]
    have x1:WB.cell? ⟨w2.heap.size,1,none⟩=some (.slice (some ⟨r0.2.1,0,none⟩) r0.1.actN r0.2.2):=by simp [World.cell?,kx]
    have hgtB:gt<WB.heap.size:=(SW.out.own.lt gt rfl).2
    have kv0:WB.cell? ⟨w1.heap.size,0,none⟩=some (.slice a2 LS.length c2):=by simp [World.cell?,kbx]
    have l1:=az kbx
    have hg1:¬ gt=w1.heap.size:=by
     intro e
     obtain ⟨cur,hcur⟩:=cQ SW.out.own gt rfl
     rw [e] at hcur
     have h3:=kbx.symm.trans hcur
     cases h3
    have hg1':¬ w1.heap.size=gt:=fun e=>hg1 e.symm
    have SWF:=ae ((SW.out.set 2 (.string r0.1.name)).set 3 (.slice (some ⟨r0.2.1,0,none⟩) r0.1.actN r0.2.2))
    have HE:=ae (SWF.out.fin rfl (L:=r1 :: r0 :: RR) (by rw [← jL];rfl) HL.out.symm (by omega) (by have:=HL.out;simp only [List.length_cons] at this ⊢;omega) (by
     intro r hr
     simp only [List.mem_cons] at hr ⊢
     rcases hr with h | h | h
     ·exact .inr (.inl h)
     ·exact .inl h
     ·exact .inr (.inr h)) G1.out)
    have BF:=ae ((BW.out.setCell (p:=⟨gt,2,none⟩) hgb (.string r0.1.name)).setCell (p:=⟨gt,3,none⟩) hgb (.slice (some ⟨r0.2.1,0,none⟩) r0.1.actN r0.2.2))
    have R9:=ae (RA.out.low BF.out (by omega))
    have O9:=ae (OA.out.then (BF.out.mono (show w.heap.size≤w.heap.size+2 by omega)))
    have HB:=ae SWF.out.box
    have HQ:=ae SWF.out.res
    clear kbx kx SW SWF BF BW XA RA OA
    go_wp2
    go_meet
    exact ⟨_,_,_,_,_,_,_,_,_,by omega,HB.out,HQ.out,HE.out,R9.out,O9.out⟩
   ·skip
    have HB:=ae X2.out.box
    have HQ:=ae X2.out.res
    have HE:=ae (dP X2.out.src rfl X2.out.tgt rfl (by omega) (by omega) G1.out)
    go_wp2
    go_meet
    exact ⟨_,_,_,_,_,_,_,_,_,by omega,HB.out,HQ.out,HE.out,R2.out,O2.out⟩
  ·by_cases hl:0<(RT'.length:Int)
   ·go_wp2_with fail
    obtain ⟨gt,rfl⟩:=gy X2.out.tgt.own (by omega)
    obtain ⟨r0,RR,rfl⟩:∃ r0 RR,RT'=r0 :: RR:=(by
     match RT',hl with
     | [],h=>simp at h
     | r0 :: RR,_=>exact ⟨r0,RR,rfl⟩)
    have hls:(r0 :: RR).length≤100:=by omega
    have kb:=(aX X2.out.tgt.own (j:=1) (u:=.slice (some ⟨r0.2.1,0,none⟩) r0.1.actN r0.2.2) rfl).1
    have hgt:=(X2.out.tgt.own.lt gt rfl).2
    have hgb:=(X2.out.tgt.own.lt gt rfl).1
    have AC:=ae (X2.out.tgt.act r0 (List.mem_cons_self ..))
    have hnn:=N1.out r0 (List.mem_cons_self ..)
    have HSZ:=ae (G1.out r0 (List.mem_cons_self ..)).2
    generalize hlen:(r0 :: RR).length=nt at kc1 X2 hl hls hl1 ⊢
    have HL:=ae hlen
    clear hlen
    have hp0:0<nt:=by omega
    have hRb:R<w.heap.size+2:=by omega
    refine aN (fun V=>V.heap[w1.heap.size]?=some (.cells #[.slice a2 LS.length c2,.slice (some ⟨gt,0,none⟩) nt c5] 26 (0,0))∧V.cell? ⟨w1.heap.size,1,none⟩=some (.slice (some ⟨gt,0,none⟩) nt c5)∧V.cell? ⟨gt,1,none⟩=some (.slice (some ⟨r0.2.1,0,none⟩) r0.1.actN r0.2.2)) 11 (by as_aux_lemma=>kernel_rfl) ?_
    have HS:Hid (w2.drew.heap[w1.heap.size]?=some (.cells #[.slice a2 LS.length c2,.slice (some ⟨gt,0,none⟩) nt c5] 26 (0,0))∧w2.drew.cell? ⟨w1.heap.size,1,none⟩=some (.slice (some ⟨gt,0,none⟩) nt c5)∧w2.drew.cell? ⟨gt,1,none⟩=some (.slice (some ⟨r0.2.1,0,none⟩) r0.1.actN r0.2.2)):=⟨X2.out.box,kc1,kb⟩
    iterate 8
     refine aF 0 (v:=?_) rfl rfl (by as_aux_lemma=>kernel_rfl) (fun _ _ _ h=>h) rfl ?_ HS.out ?_
     rotate_left
     ·(intro wz hSw;obtain ⟨s0,s1,s2⟩:=hSw;go_simp)
      (try with_reducible rfl)
     (try simp only [Act.put,nzL])
    refine aj (i:=8) rfl (by as_aux_lemma=>kernel_rfl) (fun K hK=>?_)
    go_simp
    go_at_call 131
    refine (o9 R _ r0.2.1 r0.2.2 r0.1.actN r0.1.act _ (R2.out.below br.drew lr) (by omega) (AC.out.1.below br.drew lr) hnn HSZ.out).mono ?_
    rintro e w3 ⟨L3,g3,d3,rfl,hI3,_,hL3,hT3,q3,hq3,hR3,hO3⟩
    have OO:Hid (Only R w2 w3):=(Only.of_below br.drew).trans hO3
    have X3:=ae (X2.out.only OO.out (by omega))
    have R3:=ae hR3
    have O3:=ae (O2.out.trans OO.out)
    have kb3:w3.cell? ⟨gt,1,none⟩=some (.slice (some ⟨r0.2.1,0,none⟩) r0.1.actN r0.2.2):=(OO.out.cell gt 1 hgt (by omega)).trans kb
    have z3:w3.frozen? ⟨gt,1,none⟩=false:=by
     obtain ⟨cur,hc⟩:=X3.out.tgt.type gt rfl
     simp [World.frozen?,hc]
    have hgt3:=ll hgt OO.out.size
    have SA:=ae (X3.out.setA (n:=L3.length) (g:=g3) (c:=d3) (f:=df L3) rfl HL.out.symm (jg (by have h:=hI3;unfold IR at h;rw [sq] at h;exact h)).1 (dG hI3) (by have:w2.heap.size≤g3:=hI3.lt.1;have:=X2.out.lt;have:=X2.out.hi;omega) (by omega) (od hT3) (by omega) (by rw [HL.out];omega) G1.out)
    clear hI3 hR3 hO3 OO HS
    have HS:=ae (show w3.heap[w1.heap.size]?=some (.cells #[.slice a2 LS.length c2,.slice (some ⟨gt,0,none⟩) nt c5] 26 (0,0))∧w3.cell? ⟨w1.heap.size,1,none⟩=some (.slice (some ⟨gt,0,none⟩) nt c5)∧w3.cell? ⟨gt,1,none⟩=some (.slice (some ⟨r0.2.1,0,none⟩) r0.1.actN r0.2.2) from ⟨X3.out.box,X3.out.cells.2,kb3⟩)
    refine hK.out _ _ (fun _=>HS.out) ?_
    clear hK K
    (try simp only [Act.put,nzL])
    iterate 2
     refine cj 9 rfl rfl (by as_aux_lemma=>kernel_rfl) (fun K hK=>?_)
     go_simp
     refine hK.out _ _ (fun _=>HS.out) ?_
     clear hK K
     (try simp only [Act.put,nzL])
    refine aj (i:=11) rfl (by as_aux_lemma=>kernel_rfl) (fun K hK=>?_)
    go_simp
    refine hK.out _ _ (fun h=>absurd rfl h) ?_
    clear hK K
    (try simp only [Act.put,nzL])
    refine bc (by as_aux_lemma=>kernel_rfl) ?_ _
    obtain ⟨hE,hB,hQ,hBl⟩:=SA.out
    have HE:=ae hE
    have HB:=ae hB
    have HQ:=ae hQ
    have R4:=ae (R3.out.low hBl (by omega))
    have O4:=ae (O3.out.then (hBl.mono (show w.heap.size≤w.heap.size+2 by omega)))
    clear hE hB hQ hBl SA HS kb kb3 z3 hl kc0 kc1 kf0 kf1
    go_simp
    generalize w3.setCell ⟨gt,1,none⟩ (.slice (some ⟨g3,0,none⟩) L3.length d3)=W4 at HE HB HQ R4 O4 ⊢
    go_wp2
    go_meet
    exact ⟨_,_,_,_,_,_,_,_,_,by omega,HB.out,HQ.out,HE.out,R4.out,O4.out⟩
   ·skip
    have HB:=ae X2.out.box
    have HQ:=ae X2.out.res
    have HE:=ae (dP X2.out.src rfl X2.out.tgt rfl (by omega) (by omega) G1.out)
    go_wp2
    go_meet
    exact ⟨_,_,_,_,_,_,_,_,_,by omega,HB.out,HQ.out,HE.out,R2.out,O2.out⟩
  ·by_cases hl:0<(LS.length:Int)
   ·go_wp2_with fail
    obtain ⟨gs,rfl⟩:=gy X2.out.src (by omega)
    obtain ⟨x0,LR,rfl⟩:∃ x0 LR,LS=x0 :: LR:=(by
     match LS,hl with
     | [],h=>simp at h
     | x0 :: LR,_=>exact ⟨x0,LR,rfl⟩)
    have hls:(x0 :: LR).length≤100:=by omega
    generalize hlen:(x0 :: LR).length=nl at kc0 X2 hl hls hl0 ⊢
    have HL:=ae hlen
    clear hlen
    have hp0:0<nl:=by omega
    have SB:Hid (∀ V:World,V.heap[w1.heap.size]?=some (.cells #[.slice (some ⟨gs,0,none⟩) nl c2,.slice a5 RT'.length c5] 26 (0,0))→V.heap[w1.heap.size]?=some (.cells #[.slice (some ⟨gs,0,none⟩) nl c2,.slice a5 RT'.length c5] 26 (0,0))∧V.cell? ⟨w1.heap.size,0,none⟩=some (.slice (some ⟨gs,0,none⟩) nl c2)):=fun V h=>⟨h,by simp [World.cell?,h]⟩
    refine aN (fun V=>V.heap[w1.heap.size]?=some (.cells #[.slice (some ⟨gs,0,none⟩) nl c2,.slice a5 RT'.length c5] 26 (0,0))∧V.cell? ⟨w1.heap.size,0,none⟩=some (.slice (some ⟨gs,0,none⟩) nl c2)) 8 (by as_aux_lemma=>kernel_rfl) ?_
    have HS:=ae (SB.out w2.drew X2.out.box)
    iterate 3
     refine aF 0 (v:=?_) rfl rfl (by as_aux_lemma=>kernel_rfl) (fun _ _ _ h=>h) rfl ?_ HS.out ?_
     rotate_left
     ·(intro wz hSw;obtain ⟨s0,s1⟩:=hSw;go_simp)
      (try with_reducible rfl)
     (try simp only [Act.put,nzL])
    refine aj (i:=3) rfl (by as_aux_lemma=>kernel_rfl) (fun K hK=>?_)
    go_simp
    go_at_call 51
    refine (ay R _ 2 _ (R2.out.below br.drew lr) (by omega) (by omega) (by omega)).mono ?_
    rintro e w3 ⟨z3,rfl,h30,h31,hR3,hO3⟩
    obtain ⟨m3,rfl⟩:=Int.eq_ofNat_of_zero_le h30
    have OO:Hid (Only R w2 w3):=(Only.of_below br.drew).trans hO3
    have X3:=ae (X2.out.only OO.out (by omega))
    have R3:=ae hR3
    have O3:=ae (O2.out.trans OO.out)
    clear hR3 hO3 OO HS
    have HS:=ae (SB.out w3 X3.out.box)
    refine hK.out _ _ (fun _=>HS.out) ?_
    clear hK K
    (try simp only [Act.put,nzL])
    have hw20:IntKind.i64.wrap (2000+(m3:Int))=2000+(m3:Int):=by rw [IntKind.wrap_i64];omega
    refine aj (i:=4) rfl (by as_aux_lemma=>kernel_rfl) (fun K hK=>?_)
    go_simp
    refine hK.out _ _ (fun _=>HS.out) ?_
    clear hK K
    (try simp only [Act.put,nzL])
    refine aj (i:=5) rfl (by as_aux_lemma=>kernel_rfl) (fun K hK=>?_)
    go_simp
    go_at_call 54
    refine (eS ⟨#[115]⟩ (2000+m3) _ (by show 1*(2000+m3)≤4000;omega) (by omega)).mono ?_
    rintro e w4 ⟨tt,rfl,_,rfl⟩
    refine hK.out _ _ (fun _=>HS.out) ?_
    clear hK K
    (try simp only [Act.put,nzL])
    have XL:Hid (SpX (w.heap.size+1) w1.heap.size (w.heap.size+2) w4 (.slice (some ⟨gs,0,none⟩) (x0 :: LR).length c2) (.slice a5 RT'.length c5) (x0 :: LR) RT'):=by rw [HL.out];exact X3.out
    have hgs:=(XL.out.src.lt gs rfl).2
    obtain ⟨ky,kz⟩:=aX XL.out.src (j:=1) (u:=.string x0.text) rfl
    obtain ⟨x3,b3⟩:=XL.out.setS (j:=1) (LS':=⟨x0.name,tt⟩ :: LR) (.string tt) rfl rfl
    clear XL
    rw [HL.out] at x3
    have X4:=ae x3
    have B4:=ae b3
    clear x3 b3
    iterate 2
     refine cj 6 rfl rfl (by as_aux_lemma=>kernel_rfl) (fun K hK=>?_)
     go_simp
     refine hK.out _ _ (fun _=>HS.out) ?_
     clear hK K
     (try simp only [Act.put,nzL])
    refine aj (i:=8) rfl (by as_aux_lemma=>kernel_rfl) (fun K hK=>?_)
    go_simp
    refine hK.out _ _ (fun h=>absurd rfl h) ?_
    clear hK K
    (try simp only [Act.put,nzL])
    refine bc (by as_aux_lemma=>kernel_rfl) ?_ _
    have R4:=ae (R3.out.low B4.out (by omega))
    have O4:=ae (O3.out.then (B4.out.mono (show w.heap.size≤w.heap.size+2 by omega)))
    clear HS ky kz hl
    go_simp
    generalize w4.setCell ⟨gs,1,none⟩ (.string tt)=W4 at X4 R4 O4 ⊢
    have HB:=ae X4.out.box
    have HQ:=ae X4.out.res
    have HE:=ae (dP X4.out.src HL.out.symm X4.out.tgt rfl (by have:=HL.out;simp only [List.length_cons] at this ⊢;omega) (by omega) G1.out)
    clear kc0 kc1 kf0 kf1
    go_wp2
    go_meet
    exact ⟨_,_,_,_,_,_,_,_,_,by omega,HB.out,HQ.out,HE.out,R4.out,O4.out⟩
   ·skip
    have HB:=ae X2.out.box
    have HQ:=ae X2.out.res
    have HE:=ae (dP X2.out.src rfl X2.out.tgt rfl (by omega) (by omega) G1.out)
    go_wp2
    go_meet
    exact ⟨_,_,_,_,_,_,_,_,_,by omega,HB.out,HQ.out,HE.out,R2.out,O2.out⟩
  ·go_wp2_with fail
   go_loopw [7] (fun i wr=>∃ (k q:Nat) (v1:Value) (RQ:List TR),i=.int .i64 k∧k≤RQ.length∧q≤p+1+k∧RQ.length≤300∧Hid (SpX (w.heap.size+1) w1.heap.size (w.heap.size+2) wr (.slice a2 LS.length c2) v1 LS RQ)∧Hid (GX RQ)∧Hid (Rd wr R q)∧Hid (Only R w wr)) (fun i _=>400 - (intOf i).toNat)
   case atStart=>exact ⟨0,p+1,_,RT',rfl,by omega,by omega,by omega,X2.out,G1.out,R2.out,O2.out⟩
   case round =>
    clear X2 R2 O2 kc0 kc1 kf0 kf1 G1 N1 hxl
    obtain ⟨k,q4,v1,RT',rfl,hk,hq4,hk3,X2,G1,R2,O2⟩:=hrel
    obtain ⟨w2,rfl⟩:∃ w2,w2=wr:=⟨wr,rfl⟩
    obtain ⟨a5,c5,rfl⟩:=bz X2.out.tgt.own
    have hxl:=X2.out.lt
    have hw1:IntKind.i64.wrap ((LS.length:Int)+RT'.length)=(LS.length:Int)+RT'.length:=by rw [IntKind.wrap_i64];omega
    have hwk:IntKind.i64.wrap ((k:Int)+1)=(k:Int)+1:=by rw [IntKind.wrap_i64];omega
    go_wp2_with fail
    have SB:Hid (∀ V:World,V.heap[w1.heap.size]?=some (.cells #[.slice a2 LS.length c2,.slice a5 RT'.length c5] 26 (0,0))→V.heap[w1.heap.size]?=some (.cells #[.slice a2 LS.length c2,.slice a5 RT'.length c5] 26 (0,0))∧V.cell? ⟨w1.heap.size,0,none⟩=some (.slice a2 LS.length c2)∧V.cell? ⟨w1.heap.size,1,none⟩=some (.slice a5 RT'.length c5)):=fun V h=>⟨h,by simp [World.cell?,h],by simp [World.cell?,h]⟩
    refine wp_region_held_drew (S:=fun V=>V.heap[w1.heap.size]?=some (.cells #[.slice a2 LS.length c2,.slice a5 RT'.length c5] 26 (0,0))∧V.cell? ⟨w1.heap.size,0,none⟩=some (.slice a2 LS.length c2)∧V.cell? ⟨w1.heap.size,1,none⟩=some (.slice a5 RT'.length c5)) (by as_aux_lemma=>kernel_rfl) (SB.out w2 X2.out.box) (fun hS=>?_)
    have HS:=ae hS
    clear hS
    iterate 8
     refine aL 0 (v:=?_) rfl rfl (by as_aux_lemma=>kernel_rfl) (fun _ _ _ h=>h) rfl ?_ HS.out ?_
     rotate_left
     ·(intro wz hSw;obtain ⟨s0,s1,s2⟩:=hSw;go_simp)
      (try with_reducible rfl)
     (try simp only [Act.put,nzL])
    refine bm (i:=8) rfl (by as_aux_lemma=>kernel_rfl) (fun K hK=>?_)
    go_simp
    go_at_call 51
    refine (ay R _ 2 _ (R2.out.below br.drew lr) (by omega) (by omega) (by omega)).mono ?_
    rintro e w3 ⟨z3,rfl,h30,h31,hR3,hO3⟩
    obtain ⟨m3,rfl⟩:=Int.eq_ofNat_of_zero_le h30
    have OO:Hid (Only R w2 w3):=(Only.of_below br.drew).trans hO3
    have X3:=ae (X2.out.only OO.out (by omega))
    have R3:=ae hR3
    have O3:=ae (O2.out.trans OO.out)
    clear hR3 hO3 OO HS
    have HS:=ae (SB.out w3 X3.out.box)
    refine hK.out _ _ HS.out ?_
    clear hK K
    (try simp only [Act.put,nzL])
    have hw20:IntKind.i64.wrap (200+(m3:Int))=200+(m3:Int):=by rw [IntKind.wrap_i64];omega
    iterate 2
     refine kO 9 rfl rfl (by as_aux_lemma=>kernel_rfl) (fun K hK=>?_)
     go_simp
     refine hK.out _ _ HS.out ?_
     clear hK K
     (try simp only [Act.put,nzL])
    refine wpAnyH_done (by as_aux_lemma=>kernel_rfl) ?_ _
    clear HS SB
    by_cases hlt:(LS.length:Int)+RT'.length<200+(m3:Int)
    ·go_wp2_with fail
     have hxl3:=X3.out.lt
     have SQ:Hid (∀ V:World,(∀ j,j<w3.heap.size→some j≠(Value.slice a5 RT'.length c5).ownBlock→V.heap[j]?=w3.heap[j]?)→V.heap[w1.heap.size]?=some (.cells #[.slice a2 LS.length c2,.slice a5 RT'.length c5] 26 (0,0))∧V.cell? ⟨w1.heap.size,1,none⟩=some (.slice a5 RT'.length c5)):=fun V hV=>by
      have h1:=(hV w1.heap.size X3.out.lt fun e=>by
       obtain ⟨cur,hcur⟩:=X3.out.tgt.type _ e.symm
       have h3:=X3.out.box.symm.trans hcur
       cases h3).trans X3.out.box
      exact ⟨h1,by simp [World.cell?,h1]⟩
     refine aN (fun V=>V.heap[w1.heap.size]?=some (.cells #[.slice a2 LS.length c2,.slice a5 RT'.length c5] 26 (0,0))∧V.cell? ⟨w1.heap.size,1,none⟩=some (.slice a5 RT'.length c5)) 13 (by as_aux_lemma=>kernel_rfl) ?_
     have HS:=ae (SQ.out w3.drew (fun j hj _=>rfl))
     iterate 3
      refine aF 0 (v:=?_) rfl rfl (by as_aux_lemma=>kernel_rfl) (fun _ _ _ h=>h) rfl ?_ HS.out ?_
      rotate_left
      ·(intro wz hSw;obtain ⟨s0,s1⟩:=hSw;go_simp)
       (try with_reducible rfl)
      (try simp only [Act.put,nzL])
     refine aj (i:=3) rfl (by as_aux_lemma=>kernel_rfl) (fun K hK=>?_)
     go_simp
     go_at_call 127
     refine (ft k (by omega) _).mono ?_
     rintro e wl ⟨lb,rfl,hlb,hBl⟩
     have BL:Hid (Below w3.heap.size w3 wl):=(Below.refl w3.heap.size w3).drew.trans hBl
     clear hBl HS
     have HS:=ae (SQ.out wl (fun j hj _=>BL.out.block j hj))
     refine hK.out _ _ (fun _=>HS.out) ?_
     clear hK K
     (try simp only [Act.put,nzL])
     refine dX (i:=4) (v:=.string (⟨#[117]⟩++lb)) rfl (by as_aux_lemma=>kernel_rfl) (by as_aux_lemma=>kernel_rfl) (by as_aux_lemma=>kernel_rfl) (by as_aux_lemma=>kernel_rfl) (fun _ _ _ h=>h) rfl ?_ HS.out ?_
     ·intro wz _
      go_simp
      omega
     (try simp only [Act.put,nzL])
     generalize (⟨#[117]⟩:ByteArray)++lb=tn
     refine aj (i:=5) rfl (by as_aux_lemma=>kernel_rfl) (fun K hK=>?_)
     go_simp
     go_at_call 128
     refine (aV _ _).mono ?_
     rintro e wm ⟨rfl,hBm⟩
     have BM:=ae (BL.out.trans (hBm.mono BL.out.size))
     clear hBm HS
     have HS:=ae (SQ.out wm (fun j hj _=>BM.out.block j hj))
     refine hK.out _ _ (fun _=>HS.out) ?_
     clear hK K
     (try simp only [Act.put,nzL])
     refine aj (i:=6) rfl (by as_aux_lemma=>kernel_rfl) (fun K hK=>?_)
     go_simp
     go_at_call 129
     refine (aP _ _).mono ?_
     rintro e wn ⟨rfl,hBn⟩
     have BN:=ae (BM.out.trans (hBn.mono BM.out.size))
     clear hBn HS BL BM
     have hzn:=BN.out.size
     have BI:=ae (BN.out.alloc (by omega) (.cells #[.int .i64 1,.string ⟨#[107]⟩,.int .i64 0,.int .i64 15,.string ⟨#[]⟩,.int .i64 0] 176))
     have hxi:=X3.out.hi
     have OI:=ae (pJ wn (base:=w.heap.size+2) (by omega))
     have HS:=ae (SQ.out wn (fun j hj _=>BN.out.block j hj))
     refine hK.out _ _ (fun _=>HS.out) ?_
     clear hK K HS
     (try simp only [Act.put,nzL])
     have HS:=ae (SQ.out _ (fun j hj _=>BI.out.block j hj))
     iterate 3
      refine cj 7 rfl rfl (by as_aux_lemma=>kernel_rfl) (fun K hK=>?_)
      go_simp
      refine hK.out _ _ (fun _=>HS.out) ?_
      clear hK K
      (try simp only [Act.put,nzL])
     have hzb:(wn.alloc (.cells #[.int .i64 1,.string ⟨#[107]⟩,.int .i64 0,.int .i64 15,.string ⟨#[]⟩,.int .i64 0] 176)).heap.size=wn.heap.size+1:=by simp
     have AB:=ae (BI.out.alloc (by omega) (.cells #[.string tn,.slice (some ⟨wn.heap.size,0,none⟩) 2 2] 104))
     refine aj (i:=10) rfl (by as_aux_lemma=>kernel_rfl) (fun K hK=>?_)
     go_simp
     have XA:=ae (X3.out.below AB.out lr)
     have OA:=ae (own_below OI.out (br.alloc lr (.cells #[.string tn,.slice (some ⟨wn.heap.size,0,none⟩) 2 2] 104)) lr)
     refine hK.out _ _ (fun _=>SQ.out _ (fun j hj _=>AB.out.block j hj)) ?_
     clear hK K
     (try simp only [Act.put,nzL])
     refine aj (i:=11) rfl (by as_aux_lemma=>kernel_rfl) (fun K hK=>?_)
     refine aK rfl (.tmp 106) (.tmp 115) 24 rfl (w.heap.size+2) 104 i1' (.agg #[.string ⟨#[]⟩,.slice none 0 0]) 2 40 Tryz.underlying24 hj hz0 hz1 hz2 rfl (by decide) (.slice a5 RT'.length c5) RT'.length (RT'.flatMap bu) (by simp [Act.eval]) XA.out.tgt.own ⟨wn.heap.size+1,0,none⟩ 1 1 (bu (⟨tn,2,lsI gE⟩,wn.heap.size,2)) (by simp [Act.eval]) rfl (fun j u hu=>ij (hzb) _ _ _ j u hu) (by simp [bu,Value.oneCell']) (by unfold maxLen;omega) (by omega) (by have:=XA.out.hi;have:=XA.out.lt;omega) ?_
     intro v' w7 hown hgrow _
     obtain ⟨a7,c7,rfl⟩:=bz hown
     have S7:=ae (SQ.out w7 (fun j hj hne=>(hgrow.block j (ll hj AB.out.size) hne).trans (AB.out.block j hj)))
     obtain ⟨c8,b8⟩:=XA.out.addT (x:=⟨tn,2,lsI gE⟩) (g:=wn.heap.size) (c:=2) (fun r hr e=>by have:=X3.out.tgt.ltg r hr;omega) OA.out hown hgrow
     have X9:=ae c8
     have B9:=ae b8
     clear hown hgrow c8 b8
     refine hK.out _ _ (fun _=>S7.out) ?_
     clear hK K
     (try simp only [Act.put,nzL])
     refine aj (i:=12) rfl (by as_aux_lemma=>kernel_rfl) (fun K hK=>?_)
     go_simp
     refine hK.out _ _ (fun _=>S7.out) ?_
     clear hK K
     (try simp only [Act.put,nzL])
     obtain ⟨s7,t7⟩:=S7.out
     have f7:w7.frozen? ⟨w1.heap.size,1,none⟩=false:=by simp [World.frozen?,s7]
     have l7:=az s7
     clear s7
     refine aj (i:=13) rfl (by as_aux_lemma=>kernel_rfl) (fun K hK=>?_)
     go_simp
     refine hK.out _ _ (fun h=>absurd rfl h) ?_
     clear hK K
     (try simp only [Act.put,nzL])
     refine bc (by as_aux_lemma=>kernel_rfl) ?_ _
     go_wp2
     have BB:=ae ((AB.out.mono (show w.heap.size+2≤w3.heap.size by omega)).trans B9.out)
     refine ⟨⟨k+1,_,.slice a7 (RT'.length+1) c7,RT'++[((⟨tn,2,lsI gE⟩,wn.heap.size,2):TR)],by go_num,by rw [List.length_append];exact Nat.succ_le_succ hk,by omega,by rw [List.length_append];exact (by omega:RT'.length+1≤300),X9.out,G1.out.add (r:=(⟨tn,2,lsI gE⟩,wn.heap.size,2)) (by show 2≤300;omega) og,R3.out.low BB.out (by omega),O3.out.then (BB.out.mono (by omega))⟩,by simp [intOf];omega⟩
    ·have kc0:=hxl
     have kc1:=hxl
     have kf0:=hxl
     have kf1:=hxl
     have HB:=ae X3.out.box
     have HQ:=ae X3.out.res
     have HE:=ae (dP X3.out.src rfl X3.out.tgt rfl (by omega) (by omega) G1.out)
     clear kc0 kc1 kf0 kf1
     go_wp2
     go_meet
     exact ⟨_,_,_,_,_,_,_,_,_,by omega,HB.out,HQ.out,HE.out,R3.out,O3.out⟩
  ·go_wp2_with fail
   have SB:Hid (∀ V:World,V.heap[w1.heap.size]?=some (.cells #[.slice a2 LS.length c2,.slice a5 RT'.length c5] 26 (0,0))→V.heap[w1.heap.size]?=some (.cells #[.slice a2 LS.length c2,.slice a5 RT'.length c5] 26 (0,0))∧V.cell? ⟨w1.heap.size,1,none⟩=some (.slice a5 RT'.length c5)):=fun V h=>⟨h,by simp [World.cell?,h]⟩
   refine aN (fun V=>V.heap[w1.heap.size]?=some (.cells #[.slice a2 LS.length c2,.slice a5 RT'.length c5] 26 (0,0))∧V.cell? ⟨w1.heap.size,1,none⟩=some (.slice a5 RT'.length c5)) 14 (by as_aux_lemma=>kernel_rfl) ?_
   have HS:=ae (SB.out w2.drew X2.out.box)
   iterate 3
    refine aF 0 (v:=?_) rfl rfl (by as_aux_lemma=>kernel_rfl) (fun _ _ _ h=>h) rfl ?_ HS.out ?_
    rotate_left
    ·(intro wz hSw;obtain ⟨s0,s1⟩:=hSw;go_simp)
     (try with_reducible rfl)
    (try simp only [Act.put,nzL])
   refine aj (i:=3) rfl (by as_aux_lemma=>kernel_rfl) (fun K hK=>?_)
   go_simp
   go_at_call 51
   refine (ay R _ 2 _ (R2.out.below br.drew lr) (by omega) (by omega) (by omega)).mono ?_
   rintro e w3 ⟨z3,rfl,h30,h31,hR3,hO3⟩
   obtain ⟨m3,rfl⟩:=Int.eq_ofNat_of_zero_le h30
   have OO:Hid (Only R w2 w3):=(Only.of_below br.drew).trans hO3
   have X3:=ae (X2.out.only OO.out (by omega))
   have R3:=ae hR3
   have O3:=ae (O2.out.trans OO.out)
   clear hR3 hO3 OO HS
   have HS:=ae (SB.out w3 X3.out.box)
   refine hK.out _ _ (fun _=>HS.out) ?_
   clear hK K
   (try simp only [Act.put,nzL])
   have hw60:IntKind.i64.wrap (60+(m3:Int))=60+(m3:Int):=by rw [IntKind.wrap_i64];omega
   refine aj (i:=4) rfl (by as_aux_lemma=>kernel_rfl) (fun K hK=>?_)
   go_simp
   refine hK.out _ _ (fun _=>HS.out) ?_
   clear hK K
   (try simp only [Act.put,nzL])
   refine aj (i:=5) rfl (by as_aux_lemma=>kernel_rfl) (fun K hK=>?_)
   go_simp
   go_at_call 54
   refine (eS ⟨#[110]⟩ (60+m3) _ (by show 1*(60+m3)≤4000;omega) (by omega)).mono ?_
   rintro e w4 ⟨tn,rfl,_,rfl⟩
   refine hK.out _ _ (fun _=>HS.out) ?_
   clear hK K HS
   (try simp only [Act.put,nzL])
   have SQ:Hid (∀ V:World,(∀ j,j<w4.heap.size→some j≠(Value.slice a5 RT'.length c5).ownBlock→V.heap[j]?=w4.heap[j]?)→V.heap[w1.heap.size]?=some (.cells #[.slice a2 LS.length c2,.slice a5 RT'.length c5] 26 (0,0))∧V.cell? ⟨w1.heap.size,1,none⟩=some (.slice a5 RT'.length c5)):=fun V hV=>by
    have h1:=(hV w1.heap.size X3.out.lt fun e=>by
     obtain ⟨cur,hcur⟩:=X3.out.tgt.type _ e.symm
     have h3:=X3.out.box.symm.trans hcur
     cases h3).trans X3.out.box
    exact ⟨h1,by simp [World.cell?,h1]⟩
   refine aj (i:=6) rfl (by as_aux_lemma=>kernel_rfl) (fun K hK=>?_)
   go_simp
   go_at_call 128
   refine (aV _ _).mono ?_
   rintro e wm ⟨rfl,BMh⟩
   have BM:=ae BMh
   clear BMh
   refine hK.out _ _ (fun _=>SQ.out wm (fun j hj _=>BM.out.block j hj)) ?_
   clear hK K
   (try simp only [Act.put,nzL])
   refine aj (i:=7) rfl (by as_aux_lemma=>kernel_rfl) (fun K hK=>?_)
   go_simp
   go_at_call 129
   refine (aP _ _).mono ?_
   rintro e wn ⟨rfl,hBn⟩
   have BN:=ae (BM.out.trans (hBn.mono BM.out.size))
   clear hBn BM
   have hzn:=BN.out.size
   have BI:=ae (BN.out.alloc (by omega) (.cells #[.int .i64 1,.string ⟨#[107]⟩,.int .i64 0,.int .i64 15,.string ⟨#[]⟩,.int .i64 0] 176))
   have hxi:=X3.out.hi
   have hxl3:=X3.out.lt
   have OI:=ae (pJ wn (base:=w.heap.size+2) (by omega))
   refine hK.out _ _ (fun _=>SQ.out wn (fun j hj _=>BN.out.block j hj)) ?_
   clear hK K
   (try simp only [Act.put,nzL])
   have HS:=ae (SQ.out _ (fun j hj _=>BI.out.block j hj))
   iterate 3
    refine cj 8 rfl rfl (by as_aux_lemma=>kernel_rfl) (fun K hK=>?_)
    go_simp
    refine hK.out _ _ (fun _=>HS.out) ?_
    clear hK K
    (try simp only [Act.put,nzL])
   have hzb:(wn.alloc (.cells #[.int .i64 1,.string ⟨#[107]⟩,.int .i64 0,.int .i64 15,.string ⟨#[]⟩,.int .i64 0] 176)).heap.size=wn.heap.size+1:=by simp
   have AB:=ae (BI.out.alloc (by omega) (.cells #[.string tn,.slice (some ⟨wn.heap.size,0,none⟩) 2 2] 104))
   refine aj (i:=11) rfl (by as_aux_lemma=>kernel_rfl) (fun K hK=>?_)
   go_simp
   have XA:=ae (X3.out.below AB.out lr)
   have OA:=ae (own_below OI.out (br.alloc lr (.cells #[.string tn,.slice (some ⟨wn.heap.size,0,none⟩) 2 2] 104)) lr)
   refine hK.out _ _ (fun _=>SQ.out _ (fun j hj _=>AB.out.block j hj)) ?_
   clear hK K
   (try simp only [Act.put,nzL])
   refine aj (i:=12) rfl (by as_aux_lemma=>kernel_rfl) (fun K hK=>?_)
   refine aK rfl (.tmp 121) (.tmp 131) 24 rfl (w.heap.size+2) 104 i1' (.agg #[.string ⟨#[]⟩,.slice none 0 0]) 2 40 Tryz.underlying24 hj hz0 hz1 hz2 rfl (by decide) (.slice a5 RT'.length c5) RT'.length (RT'.flatMap bu) (by simp [Act.eval]) XA.out.tgt.own ⟨wn.heap.size+1,0,none⟩ 1 1 (bu (⟨tn,2,lsI gE⟩,wn.heap.size,2)) (by simp [Act.eval]) rfl (fun j u hu=>ij (hzb) _ _ _ j u hu) (by simp [bu,Value.oneCell']) (by unfold maxLen;omega) (by omega) (by have:=XA.out.hi;have:=XA.out.lt;omega) ?_
   intro v' w7 hown hgrow _
   obtain ⟨a7,c7,rfl⟩:=bz hown
   have S7:=ae (SQ.out w7 (fun j hj hne=>(hgrow.block j (ll hj AB.out.size) hne).trans (AB.out.block j hj)))
   obtain ⟨c8,b8⟩:=XA.out.addT (x:=⟨tn,2,lsI gE⟩) (g:=wn.heap.size) (c:=2) (fun r hr e=>by have:=X3.out.tgt.ltg r hr;omega) OA.out hown hgrow
   have X9:=ae c8
   have B9:=ae b8
   clear hown hgrow c8 b8
   refine hK.out _ _ (fun _=>S7.out) ?_
   clear hK K
   (try simp only [Act.put,nzL])
   refine aj (i:=13) rfl (by as_aux_lemma=>kernel_rfl) (fun K hK=>?_)
   go_simp
   refine hK.out _ _ (fun _=>S7.out) ?_
   clear hK K
   (try simp only [Act.put,nzL])
   obtain ⟨s7,t7⟩:=S7.out
   have f7:w7.frozen? ⟨w1.heap.size,1,none⟩=false:=by simp [World.frozen?,s7]
   have l7:=az s7
   clear s7
   refine aj (i:=14) rfl (by as_aux_lemma=>kernel_rfl) (fun K hK=>?_)
   go_simp
   refine hK.out _ _ (fun h=>absurd rfl h) ?_
   clear hK K
   (try simp only [Act.put,nzL])
   refine bc (by as_aux_lemma=>kernel_rfl) ?_ _
   have BB:=ae ((AB.out.mono (show w.heap.size+2≤w4.heap.size by omega)).trans B9.out)
   have R9:=ae (R3.out.low BB.out (by omega))
   have O9:=ae (O3.out.then (BB.out.mono (by omega)))
   have G9:=ae (G1.out.add (r:=(⟨tn,2,lsI gE⟩,wn.heap.size,2)) (by show 2≤300;omega) og)
   clear t7 f7 l7 HS
   go_simp
   generalize w7.setCell ⟨w1.heap.size,1,none⟩ (.slice a7 (RT'.length+1) c7)=W9 at X9 R9 O9 ⊢
   have HB:=ae X9.out.box
   have HQ:=ae X9.out.res
   have HE:=ae (dP X9.out.src rfl X9.out.tgt (by simp) (by omega) (by rw [List.length_append];exact (by omega:RT'.length+1≤300)) G9.out)
   clear kc0 kc1 kf0 kf1
   go_wp2
   go_meet
   exact ⟨_,_,_,_,_,_,_,_,_,by omega,HB.out,HQ.out,HE.out,R9.out,O9.out⟩
  ·have BQ:=ae ((Below.refl w2.heap.size w2).alloc lr (.cells #[.string ⟨#[97]⟩,.slice none 0 0] 104))
   have XQ:=ae (X2.out.below BQ.out lr)
   go_wp2_with (at_builtin;refine aC _ rfl (.tmp 137) (.tmp 139) 24 rfl (w.heap.size+2) 104 i1' (.agg #[.string ⟨#[]⟩,.slice none 0 0]) 2 40 Tryz.underlying24 hj hz0 hz1 hz2 rfl (by decide) (.slice a5 RT'.length c5) RT'.length (RT'.flatMap bu) (by simp [Act.eval]) XQ.out.tgt.own ⟨w2.heap.size,0,none⟩ 1 1 [.string ⟨#[97]⟩,.slice none 0 0] (by simp [Act.eval]) rfl (fun j u hu=>eI w2 _ _ _ j u hu) (by simp [Value.oneCell']) (by unfold maxLen;omega) (by omega) (by have:=X2.out.hi;simp;omega) ?_;intro v' w3 hown hgrow _;obtain ⟨a7,c7,rfl⟩:=bz hown;obtain ⟨hE,hB,hQ,hBl⟩:=XQ.out.addNil hown hgrow (by omega) (by omega) G1.out;have HE:=ae hE;have HBl:=ae hBl;have HB:=ae hB;have HQ:=ae hQ;have kb:=fw hgrow XQ.out.tgt.type XQ.out.box (by decide);clear hown hgrow hE hB hQ hBl kc0 kc1 kf0 kf1;have e0:w3.cell? ⟨w1.heap.size,0,none⟩=some (.slice a2 LS.length c2):=(by simp [World.cell?,kb]);have e1:w3.cell? ⟨w1.heap.size,1,none⟩=some (.slice a5 RT'.length c5):=(by simp [World.cell?,kb]);have f2:w3.frozen? ⟨w1.heap.size,1,none⟩=false:=(by simp [World.frozen?,kb]);have l1:=az kb;have hne:=XQ.out.hi;clear kb)
   go_meet
   exact ⟨_,_,_,_,_,_,_,_,_,by omega,HB.out,HQ.out,HE.out,R2.out.low (BQ.out.mono (show w.heap.size+2≤w2.heap.size by omega) |>.trans HBl.out) (by omega),O2.out.then ((BQ.out.mono (show w.heap.size≤w2.heap.size by omega)).trans (HBl.out.mono (by omega)))⟩
  ·by_cases hl:1<(LS.length:Int)
   ·go_wp2_with fail
    obtain ⟨gs,rfl⟩:=gy X2.out.src (by omega)
    obtain ⟨x0,x1,LR,rfl⟩:∃ x0 x1 LR,LS=x0 :: x1 :: LR:=(by
     match LS,hl with
     | [],h=>simp at h
     | [_],h=>simp at h
     | x0 :: x1 :: LR,_=>exact ⟨x0,x1,LR,rfl⟩)
    have hgs:=(X2.out.src.lt gs rfl).2
    have kx:=(aX X2.out.src (j:=0) (u:=.string x0.name) rfl).1
    obtain ⟨ky,kz⟩:=aX X2.out.src (j:=2) (u:=.string x1.name) rfl
    obtain ⟨x3,b3⟩:=X2.out.setS (j:=2) (LS':=x0 :: ⟨x0.name,x1.text⟩ :: LR) (.string x0.name) rfl rfl
    have X3:=ae x3
    have B3:=ae b3
    clear x3 b3
    have hls:(x0 :: x1 :: LR).length≤100:=by omega
    have hlp:(1:Int)<(x0 :: x1 :: LR).length:=hl
    generalize hlen:(x0 :: x1 :: LR).length=nl at *
    have HL:=ae hlen
    clear hlen
    have hp0:0<nl:=by omega
    have hp1:1<nl:=by omega
    refine aN (fun V=>V.cell? ⟨w1.heap.size,0,none⟩=some (.slice (some ⟨gs,0,none⟩) nl c2)∧V.cell? ⟨gs,0,none⟩=some (.string x0.name)) 9 (by as_aux_lemma=>kernel_rfl) ?_
    have HS:Hid ((w2.drew.cell? ⟨w1.heap.size,0,none⟩=some (.slice (some ⟨gs,0,none⟩) nl c2))∧w2.drew.cell? ⟨gs,0,none⟩=some (.string x0.name)):=⟨kc0,kx⟩
    iterate 7
     refine aF 0 (v:=?_) rfl rfl (by as_aux_lemma=>kernel_rfl) (fun _ _ _ h=>h) rfl ?_ HS.out ?_
     rotate_left
     ·(intro wz hSw;obtain ⟨s0,s1⟩:=hSw;go_simp)
      (try with_reducible rfl)
     (try simp only [Act.put,nzL])
    iterate 2
     refine cj 7 rfl rfl (by as_aux_lemma=>kernel_rfl) (fun K hK=>?_)
     go_simp
     refine hK.out _ _ (fun _=>HS.out) ?_
     clear hK K
     (try simp only [Act.put,nzL])
    refine aj (i:=9) rfl (by as_aux_lemma=>kernel_rfl) (fun K hK=>?_)
    go_simp
    refine hK.out _ _ (fun h=>absurd rfl h) ?_
    clear hK K
    (try simp only [Act.put,nzL])
    refine bc (by as_aux_lemma=>kernel_rfl) ?_ _
    have R3:=ae ((R2.out.low B3.out (by omega)).below br.drew lr)
    have O3:=ae (O2.out.then ((B3.out.mono (show w.heap.size≤w.heap.size+2 by omega)).drew))
    have XD:=ae (X3.out.below br.drew lr)
    clear HS kx ky kz hl hlp
    go_simp
    generalize (w2.setCell ⟨gs,2,none⟩ (.string x0.name)).drew=W3 at XD R3 O3 ⊢
    have HB:=ae XD.out.box
    have HQ:=ae XD.out.res
    have HE:=ae (dP XD.out.src HL.out.symm XD.out.tgt rfl (by have:=HL.out;simp only [List.length_cons] at this ⊢;omega) (by omega) G1.out)
    clear kc0 kc1 kf0 kf1
    go_wp2
    go_meet
    exact ⟨_,_,_,_,_,_,_,_,_,by omega,HB.out,HQ.out,HE.out,R3.out,O3.out⟩
   ·skip
    have HB:=ae X2.out.box
    have HQ:=ae X2.out.res
    have HE:=ae (dP X2.out.src rfl X2.out.tgt rfl (by omega) (by omega) G1.out)
    go_wp2
    go_meet
    exact ⟨_,_,_,_,_,_,_,_,_,by omega,HB.out,HQ.out,HE.out,R2.out,O2.out⟩
 case rest =>
 clear X2 R2 O2 kc0 kc1 kf0 kf1 hxl
 obtain ⟨b0,m0,k0,g0,b1,m1,k1,g1,q',hq',HB,HQ,HE,R9,O9⟩:=hcut
 generalize wc=W9 at HB HQ HE R9 O9 ⊢
 have kb:=HB.out
 have kr:=HQ.out
 have e0:W9.cell? ⟨w1.heap.size,0,none⟩=some (.slice b0 m0 k0):=by simp [World.cell?,kb]
 have e1:W9.cell? ⟨w1.heap.size,1,none⟩=some (.slice b1 m1 k1):=by simp [World.cell?,kb]
 have r0:W9.cell? ⟨w.heap.size+1,0,none⟩=some (.slice none 0 0):=by simp [World.cell?,kr]
 have r1:W9.cell? ⟨w.heap.size+1,1,none⟩=some (.slice none 0 0):=by simp [World.cell?,kr]
 have f0:W9.frozen? ⟨w.heap.size+1,0,none⟩=false:=by simp [World.frozen?,kr]
 have f1:W9.frozen? ⟨w.heap.size+1,1,none⟩=false:=by simp [World.frozen?,kr]
 have l0:=az kr
 have l1:=az kb
 clear kb kr
 have BE:=ae (((Below.refl w.heap.size W9).setCell (p:=⟨w.heap.size+1,0,none⟩) (Nat.le_succ _) (.slice b0 m0 k0)).setCell (p:=⟨w.heap.size+1,1,none⟩) (Nat.le_succ _) (.slice b1 m1 k1))
 have HE2:=ae ((HE.out.agr ((dl (j:=0) (show w.heap.size+1<w.heap.size+2 by omega) (.slice b0 m0 k0)).trans (dl (j:=1) (show w.heap.size+1<w.heap.size+2 by omega) (.slice b1 m1 k1)))).mono (show w.heap.size≤w.heap.size+2 by omega))
 go_wp2
 exact bodyPost_ret (v:=.agg #[.slice b0 m0 k0,.slice b1 m1 k1]) (by simp [results,Tryz.results125,go_sem,r0,r1]) rfl ⟨_,_,_,_,_,_,_,_,rfl,HE2.out,_,by omega,R9.out.low BE.out hlow,O9.out.then BE.out⟩
theorem vS {w:World}{b:Nat}{s0 s1 s2:ByteArray}{t:TypeId}{fz:Nat × Nat}(h:w.heap[b]?=some (.cells #[.string s0,.string s1,.string s2] t fz))(h0:s0.size≤5000)(h1:s1.size≤5000)(h2:s2.size≤5000)(k:Nat)(hk:k<3):∃ s:ByteArray,w.cell? ⟨b,k,none⟩=some (.string s)∧s.size≤5000:=by
 match k,hk with
 | 0,_=>exact ⟨s0,by simp [World.cell?,h],h0⟩
 | 1,_=>exact ⟨s1,by simp [World.cell?,h],h1⟩
 | 2,_=>exact ⟨s2,by simp [World.cell?,h],h2⟩
 | j+3,h5=>exact absurd h5 (by omega)
theorem vT {w:World}{base:Nat}{a0 a1:Option Addr}{c0 c1:Nat}{LS:List Source}{RT:List TR}(hs:w.ownsRow base 100 2 (.slice a0 LS.length c0) LS.length (LS.flatMap bM))(ht:TRow w base (.slice a1 RT.length c1) RT)(hG:SpG LS RT)(h0:LS.length≤300)(h1:RT.length≤300):HSp base w a0 LS.length (fi LS) a1 RT.length (cP (RT.map (·.1)))∧∀ i,i<RT.length→1≤(cP (RT.map (·.1)) i).actN∧(cP (RT.map (·.1)) i).actN≤200:=by
 refine ⟨dP hs rfl ht rfl h0 h1 (fun r hr=>⟨by have:=(hG.t r hr).2.1.2;omega,(hG.t r hr).2.2⟩),fun i hi=>?_⟩
 have e:cP (RT.map (·.1)) i=RT[i].1:=by simp [cP,hi]
 rw [e]
 exact (hG.t _ (List.getElem_mem hi)).2.1
theorem td (R p:Nat)(w:World)(hR:Rd w R p)(hp:p≤9000) :
  Calls Tryz.prog 49 #[.pointer (some ⟨R,0,none⟩)] w fun e w'=>DH w R (p+6300) e w':=by
 have HR:=ae hR
 have hlow:=hR.lt
 clear hR
 go_enter Tryz.func49,Tryz.ntmps49
 go_wp2_with fail
 have A0:=ae ((Below.refl w.heap.size w).alloc lr (.cells #[.slice none 0 0,.slice none 0 0] 26))
 have K0:Hid ((w.alloc (.cells #[.slice none 0 0,.slice none 0 0] 26)).heap[w.heap.size]?=some (.cells #[.slice none 0 0,.slice none 0 0] 26 (0,0))):=heap_alloc_new w _
 have hz0:(w.alloc (.cells #[.slice none 0 0,.slice none 0 0] 26)).heap.size=w.heap.size+1:=by simp
 generalize w.alloc (.cells #[.slice none 0 0,.slice none 0 0] 26)=W0 at A0 K0 hz0 ⊢
 refine (ay R p 24 _ (HR.out.below A0.out lr) (by omega) (by omega) (by omega)).mono ?_
 rintro e w1 ⟨z,rfl,hz0',hz1',hR1,hO1⟩
 have R1:=ae hR1
 have O1:=ae ((Only.of_below A0.out).trans hO1:Only R w w1)
 have K1:=ae ((hO1.block w.heap.size (by omega) (by omega)).trans K0.out)
 have hs1:=hO1.size
 clear hR1 hO1 A0 K0
 by_cases hk:z=0
 ·subst hk
  go_wp2_with fail
  refine (ay R _ 3 _ R1.out (by omega) (by omega) (by omega)).mono ?_
  rintro e w2 ⟨z2,rfl,h20,h21,hR2,hO2⟩
  obtain ⟨m2,rfl⟩:=Int.eq_ofNat_of_zero_le h20
  have R2:=ae hR2
  have O2:=ae (O1.out.trans hO2)
  have K2:=ae ((hO2.block w.heap.size (by omega) (by omega)).trans K1.out)
  have hs2:=hO2.size
  clear hR2 hO2 R1 O1 K1
  have hw1:IntKind.i64.wrap (60+(m2:Int))=60+(m2:Int):=by rw [IntKind.wrap_i64];omega
  have hw2:IntKind.i64.wrap (60+(m2:Int) - 1)=59+(m2:Int):=by rw [IntKind.wrap_i64];omega
  go_wp2_with fail
  have BL:=ae ((Below.refl w2.heap.size w2).alloc lr (.cells #[.string ⟨#[97]⟩,.string ⟨#[110,111,110,101]⟩,.string ⟨#[116,48,48,48]⟩] 9))
  have RL:=ae (R2.out.below BL.out lr)
  have OL:=ae (O2.out.then (BL.out.mono (by omega)))
  have KL:=ae ((BL.out.block w.heap.size (by omega)).trans K2.out)
  have hl3:(w2.alloc (.cells #[.string ⟨#[97]⟩,.string ⟨#[110,111,110,101]⟩,.string ⟨#[116,48,48,48]⟩] 9)).heap[w2.heap.size]?=some (.cells #[.string ⟨#[97]⟩,.string ⟨#[110,111,110,101]⟩,.string ⟨#[116,48,48,48]⟩] 9 (0,0)):=heap_alloc_new w2 _
  have hs3:=az hl3
  have HL3:=ae hl3
  clear BL hl3 R2 O2 K2
  generalize w2.alloc (.cells #[.string ⟨#[97]⟩,.string ⟨#[110,111,110,101]⟩,.string ⟨#[116,48,48,48]⟩] 9)=WL at RL OL KL HL3 hs3 ⊢
  refine (ay R _ 3 _ RL.out (by omega) (by omega) (by omega)).mono ?_
  rintro e w3 ⟨z3,rfl,h30,h31,hR3,hO3⟩
  obtain ⟨m3,rfl⟩:=Int.eq_ofNat_of_zero_le h30
  have hm3:m3<3:=by omega
  have R3:=ae hR3
  have O3:=ae (OL.out.trans hO3)
  have K3:=ae ((hO3.block w.heap.size (by omega) (by omega)).trans KL.out)
  obtain ⟨sx,hcx,hsx⟩:=vS ((hO3.block w2.heap.size hs3 (by omega)).trans HL3.out) (Nat.le_of_ble_eq_true rfl) (Nat.le_of_ble_eq_true rfl) (Nat.le_of_ble_eq_true rfl) m3 hm3
  have hs4:=hO3.size
  clear hR3 hO3 HL3 RL OL KL
  go_wp2_with fail
  refine (pc (59+m2) (by omega) sx hsx _).mono ?_
  rintro e w4 ⟨a0,n0,c0,f0,a1,n1,c1,f1,rfl,hH4,hB4⟩
  have H4:=ae (hH4.mono (show w.heap.size+1≤w3.heap.size by omega))
  have R4:=ae (R3.out.below hB4 lr)
  have O4:=ae (O3.out.then (hB4.mono (by omega)))
  have K4:=ae ((hB4.block w.heap.size (by omega)).trans K3.out)
  clear hH4 hB4 R3 O3 K3 hcx
  have kr:=K4.out
  have r0:w4.cell? ⟨w.heap.size,0,none⟩=some (.slice none 0 0):=by simp [World.cell?,kr]
  have r1:w4.cell? ⟨w.heap.size,1,none⟩=some (.slice none 0 0):=by simp [World.cell?,kr]
  have f0:w4.frozen? ⟨w.heap.size,0,none⟩=false:=by simp [World.frozen?,kr]
  have f1:w4.frozen? ⟨w.heap.size,1,none⟩=false:=by simp [World.frozen?,kr]
  have l0:=az kr
  clear kr
  have BE:=ae (((Below.refl w.heap.size w4).setCell (p:=⟨w.heap.size,0,none⟩) lr (.slice a0 n0 c0)).setCell (p:=⟨w.heap.size,1,none⟩) lr (.slice a1 n1 c1))
  have HE2:=ae ((H4.out.agr ((dl (j:=0) (Nat.lt_succ_self w.heap.size) (.slice a0 n0 c0)).trans (dl (j:=1) (Nat.lt_succ_self w.heap.size) (.slice a1 n1 c1)))).mono (Nat.le_succ w.heap.size))
  go_wp2
  exact bodyPost_ret (v:=.agg #[.slice a0 n0 c0,.slice a1 n1 c1]) (by simp [results,Tryz.results49,go_sem,r0,r1]) rfl ⟨_,_,_,_,_,_,_,_,rfl,HE2.out,_,by omega,R4.out.low BE.out hlow,O4.out.then BE.out⟩
 ·go_wp2_with fail
  refine (rB R _ _ R1.out (by omega)).mono ?_
  rintro e w2 ⟨LS,RT,v0,v1,rfl,hs,ht,hG,hl0,hl1,q2,hq2,hR2,hO2⟩
  obtain ⟨a0,c0,rfl⟩:=bz hs
  obtain ⟨a1,c1,rfl⟩:=bz ht.own
  obtain ⟨hh,hg⟩:=vT hs ht hG (by omega) (by omega)
  have H2:=ae (hh.mono (show w.heap.size+1≤w1.heap.size+2 by omega))
  have HG:=ae hg
  have R2:=ae hR2
  have O2:=ae (O1.out.trans hO2)
  have K2:=ae ((hO2.block w.heap.size (by omega) (by omega)).trans K1.out)
  have hs2:=hO2.size
  clear hs ht hG hh hg hR2 hO2 R1 O1 K1
  by_cases hk3:z<3
  ·have BS:=ae ((Below.refl w2.heap.size w2).alloc lr (.cells #[.slice a0 LS.length c0,.slice a1 RT.length c1] 26))
   have H2:=ae (H2.out.agr (dC BS.out lr))
   have R2:=ae (R2.out.below BS.out lr)
   have O2:=ae (O2.out.then (BS.out.mono (by omega)))
   have K2:=ae ((BS.out.block w.heap.size (by omega)).trans K2.out)
   have hs3:=BS.out.size
   clear BS
   go_wp2_with fail
   generalize w2.alloc (.cells #[.slice a0 LS.length c0,.slice a1 RT.length c1] 26)=WS at H2 R2 O2 K2 hs3 ⊢
   refine (pd R q2 (w.heap.size+1) LS.length c0 RT.length c1 a0 _ a1 _ _ R2.out (by omega) H2.out HG.out (by omega) (by omega)).mono ?_
   rintro e w3 ⟨b0,m0,d0,g0,b1,m1,d1,g1,rfl,hH3,q3,hq3,hR3,hO3⟩
   have H3:=ae (hH3.mono (show w.heap.size+1≤WS.heap.size by omega))
   have R3:=ae hR3
   have O3:=ae (O2.out.trans hO3)
   have K3:=ae ((hO3.block w.heap.size (by omega) (by omega)).trans K2.out)
   clear hH3 hR3 hO3 H2 R2 O2 K2 HG
   have kr:=K3.out
   have r0:w3.cell? ⟨w.heap.size,0,none⟩=some (.slice none 0 0):=by simp [World.cell?,kr]
   have r1:w3.cell? ⟨w.heap.size,1,none⟩=some (.slice none 0 0):=by simp [World.cell?,kr]
   have f0:w3.frozen? ⟨w.heap.size,0,none⟩=false:=by simp [World.frozen?,kr]
   have f1:w3.frozen? ⟨w.heap.size,1,none⟩=false:=by simp [World.frozen?,kr]
   have l0:=az kr
   clear kr
   have BE:=ae (((Below.refl w.heap.size w3).setCell (p:=⟨w.heap.size,0,none⟩) lr (.slice b0 m0 d0)).setCell (p:=⟨w.heap.size,1,none⟩) lr (.slice b1 m1 d1))
   have HE2:=ae ((H3.out.agr ((dl (j:=0) (Nat.lt_succ_self w.heap.size) (.slice b0 m0 d0)).trans (dl (j:=1) (Nat.lt_succ_self w.heap.size) (.slice b1 m1 d1)))).mono (Nat.le_succ w.heap.size))
   go_wp2
   exact bodyPost_ret (v:=.agg #[.slice b0 m0 d0,.slice b1 m1 d1]) (by simp [results,Tryz.results49,go_sem,r0,r1]) rfl ⟨_,_,_,_,_,_,_,_,rfl,HE2.out,_,by omega,R3.out.low BE.out hlow,O3.out.then BE.out⟩
  ·clear HG
   have kr:=K2.out
   have r0:w2.cell? ⟨w.heap.size,0,none⟩=some (.slice none 0 0):=by simp [World.cell?,kr]
   have r1:w2.cell? ⟨w.heap.size,1,none⟩=some (.slice none 0 0):=by simp [World.cell?,kr]
   have f0:w2.frozen? ⟨w.heap.size,0,none⟩=false:=by simp [World.frozen?,kr]
   have f1:w2.frozen? ⟨w.heap.size,1,none⟩=false:=by simp [World.frozen?,kr]
   have l0:=az kr
   clear kr
   have hzz:((w2.setCell ⟨w.heap.size,0,none⟩ (.slice a0 LS.length c0)).setCell ⟨w.heap.size,1,none⟩ (.slice a1 RT.length c1)).heap.size=w2.heap.size:=by simp
   have BE:=ae ((((Below.refl w.heap.size w2).setCell (p:=⟨w.heap.size,0,none⟩) lr (.slice a0 LS.length c0)).setCell (p:=⟨w.heap.size,1,none⟩) lr (.slice a1 RT.length c1)).alloc (by omega) (.cells #[.slice a0 LS.length c0,.slice a1 RT.length c1] 26))
   have HE2:=ae ((H2.out.agr (((dl (j:=0) (Nat.lt_succ_self w.heap.size) (.slice a0 LS.length c0)).trans (dl (j:=1) (Nat.lt_succ_self w.heap.size) (.slice a1 RT.length c1))).trans (dC (br.alloc lr (.cells #[.slice a0 LS.length c0,.slice a1 RT.length c1] 26)) lr))).mono (Nat.le_succ w.heap.size))
   clear hzz
   go_wp2
   exact bodyPost_ret (v:=.agg #[.slice a0 LS.length c0,.slice a1 RT.length c1]) (by simp [results,Tryz.results49,go_sem,r0,r1,l0]) rfl ⟨_,_,_,_,_,_,_,_,rfl,HE2.out,_,by omega,R2.out.low BE.out hlow,O2.out.then BE.out⟩
theorem kI (R p b0 n0 c0 n1 c1:Nat)(a0:Option Addr)(f0:Nat→Source)(a1:Option Addr)(f1:Nat→Target)(w:World)(hR:Rd w R p)(hp:p≤50000)(hb:R<b0)(hH:HSp b0 w a0 n0 f0 a1 n1 f1) :
  Calls Tryz.prog 52 #[.pointer (some ⟨R,0,none⟩),.agg #[.slice a0 n0 c0,.slice a1 n1 c1]] w fun e w'=>∃ t:ByteArray,e=.returned (.string t)∧∃ q:Nat,q≤p+3∧Rd w' R q∧Only R w w':=by
 have HR:=ae hR
 have hlow:=hR.lt
 have hn1:=hH.hn1
 have HH:=ae hH
 clear hR hH
 have A0:=ae ((Below.refl w.heap.size w).alloc lr (.cells #[.slice a0 n0 c0,.slice a1 n1 c1] 26))
 have K0:Hid ((w.alloc (.cells #[.slice a0 n0 c0,.slice a1 n1 c1] 26)).heap[w.heap.size]?=some (.cells #[.slice a0 n0 c0,.slice a1 n1 c1] 26 (0,0))):=heap_alloc_new w _
 have hz0:(w.alloc (.cells #[.slice a0 n0 c0,.slice a1 n1 c1] 26)).heap.size=w.heap.size+1:=by simp
 by_cases hn:0<(n1:Int)
 ·go_enter Tryz.func52,Tryz.ntmps52
  go_wp2_with fail
  generalize w.alloc (.cells #[.slice a0 n0 c0,.slice a1 n1 c1] 26)=W0 at A0 K0 hz0 ⊢
  have R0:=ae (HR.out.below A0.out lr)
  have O0:Hid (Only R w W0):=Only.of_below A0.out
  refine (ay R p 8 _ R0.out (by omega) (by omega) (by omega)).mono ?_
  rintro e w1 ⟨z,rfl,hz0',hz1',hR1,hO1⟩
  have R1:=ae hR1
  have O1:=ae (O0.out.trans hO1)
  have K1:=ae ((hO1.block w.heap.size (by omega) (by omega)).trans K0.out)
  clear hR1 hO1 R0 O0 K0 A0
  have kb:=K1.out
  have x1:w1.cell? ⟨w.heap.size,1,none⟩=some (.slice a1 n1 c1):=by simp [World.cell?,kb]
  have l1:=az kb
  clear kb
  by_cases hz:0<z
  ·go_wp2_with fail
   refine aN (fun V=>V.cell? ⟨w.heap.size,1,none⟩=some (.slice a1 n1 c1)) 10 (by as_aux_lemma=>kernel_rfl) ?_
   have HS:Hid (w1.drew.cell? ⟨w.heap.size,1,none⟩=some (.slice a1 n1 c1)):=x1
   iterate 6
    refine aF 0 (v:=?_) rfl rfl (by as_aux_lemma=>kernel_rfl) (fun _ _ _ h=>h) rfl ?_ HS.out ?_
    rotate_left
    ·(intro wz s0;go_simp)
     (try with_reducible rfl)
    (try simp only [Act.put,nzL])
   refine aj (i:=6) rfl (by as_aux_lemma=>kernel_rfl) (fun K hK=>?_)
   go_simp
   go_at_call 51
   refine (ay R _ (n1:Int) _ (R1.out.below br.drew lr) (by omega) (by omega) (by omega)).mono ?_
   rintro e w3 ⟨z3,rfl,h30,h31,hR3,hO3⟩
   obtain ⟨m3,rfl⟩:=Int.eq_ofNat_of_zero_le h30
   have OO:Hid (Only R w1 w3):=(Only.of_below br.drew).trans hO3
   have R3:=ae hR3
   have O3:=ae (O1.out.trans OO.out)
   have hm3:m3<n1:=by omega
   clear hR3 hO3 HS
   have HS:Hid (w3.cell? ⟨w.heap.size,1,none⟩=some (.slice a1 n1 c1)):=(OO.out.cell w.heap.size 1 l1 (by omega)).trans x1
   rcases (HH.out.sl w3 (O3.out.agr hb)).2 with h0 | ⟨tb,tof,rfl,hrow⟩
   ·omega
   have kn:=(hrow.2 m3 hm3).1
   have hl:=hrow.1
   clear hrow x1
   refine hK.out _ _ (fun _=>HS.out) ?_
   clear hK K
   (try simp only [Act.put,nzL])
   iterate 4
    refine cj 7 rfl rfl (by as_aux_lemma=>kernel_rfl) (fun K hK=>?_)
    go_simp
    refine hK.out _ _ (fun _=>HS.out) ?_
    clear hK K
    (try simp only [Act.put,nzL])
   refine bc (by as_aux_lemma=>kernel_rfl) ?_ _
   go_wp2
   go_ret
   exact ⟨_,rfl,_,by omega,R3.out,O3.out⟩
  ·go_wp2_with fail
   have BL:=ae ((Below.refl w1.heap.size w1).alloc lr (.cells #[.string ⟨#[97]⟩,.string ⟨#[110,111,110,101]⟩,.string ⟨#[]⟩,.string ⟨#[120,32,121]⟩,.string ⟨#[116,48]⟩] 9))
   have RL:=ae (R1.out.below BL.out lr)
   have OL:=ae (O1.out.then (BL.out.mono (by omega)))
   have hl3:(w1.alloc (.cells #[.string ⟨#[97]⟩,.string ⟨#[110,111,110,101]⟩,.string ⟨#[]⟩,.string ⟨#[120,32,121]⟩,.string ⟨#[116,48]⟩] 9)).heap[w1.heap.size]?=some (.cells #[.string ⟨#[97]⟩,.string ⟨#[110,111,110,101]⟩,.string ⟨#[]⟩,.string ⟨#[120,32,121]⟩,.string ⟨#[116,48]⟩] 9 (0,0)):=heap_alloc_new w1 _
   have hs3:=az hl3
   have HL3:=ae hl3
   clear BL hl3
   generalize w1.alloc (.cells #[.string ⟨#[97]⟩,.string ⟨#[110,111,110,101]⟩,.string ⟨#[]⟩,.string ⟨#[120,32,121]⟩,.string ⟨#[116,48]⟩] 9)=WL at RL OL HL3 hs3 ⊢
   refine (ay R _ 5 _ RL.out (by omega) (by omega) (by omega)).mono ?_
   rintro e w3 ⟨z3,rfl,h30,h31,hR3,hO3⟩
   obtain ⟨m3,rfl⟩:=Int.eq_ofNat_of_zero_le h30
   have hm3:m3<5:=by omega
   have R3:=ae hR3
   have O3:=ae (OL.out.trans hO3)
   obtain ⟨sx,hcx⟩:=jm ((hO3.block (w1.heap.size) hs3 (by omega)).trans HL3.out) m3 hm3
   clear hR3 hO3 HL3 RL OL
   go_wp2
   go_ret
   exact ⟨sx,rfl,_,by omega,R3.out,O3.out⟩
 ·go_enter Tryz.func52,Tryz.ntmps52
  go_wp2_with fail
  generalize w.alloc (.cells #[.slice a0 n0 c0,.slice a1 n1 c1] 26)=W0 at A0 K0 hz0 ⊢
  have R0:=ae (HR.out.below A0.out lr)
  have O0:Hid (Only R w W0):=Only.of_below A0.out
  have l0:=az K0.out
  have BL:=ae ((Below.refl W0.heap.size W0).alloc lr (.cells #[.string ⟨#[97]⟩,.string ⟨#[110,111,110,101]⟩,.string ⟨#[]⟩,.string ⟨#[120,32,121]⟩,.string ⟨#[116,48]⟩] 9))
  have RL:=ae (R0.out.below BL.out lr)
  have OL:=ae (O0.out.then (BL.out.mono (by omega)))
  have hl3:(W0.alloc (.cells #[.string ⟨#[97]⟩,.string ⟨#[110,111,110,101]⟩,.string ⟨#[]⟩,.string ⟨#[120,32,121]⟩,.string ⟨#[116,48]⟩] 9)).heap[w.heap.size+1]?=some (.cells #[.string ⟨#[97]⟩,.string ⟨#[110,111,110,101]⟩,.string ⟨#[]⟩,.string ⟨#[120,32,121]⟩,.string ⟨#[116,48]⟩] 9 (0,0)):=(by rw [← hz0];exact heap_alloc_new W0 _)
  have hs3:=az hl3
  have HL3:=ae hl3
  clear BL hl3
  generalize W0.alloc (.cells #[.string ⟨#[97]⟩,.string ⟨#[110,111,110,101]⟩,.string ⟨#[]⟩,.string ⟨#[120,32,121]⟩,.string ⟨#[116,48]⟩] 9)=WL at RL OL HL3 hs3 ⊢
  refine (ay R _ 5 _ RL.out (by omega) (by omega) (by omega)).mono ?_
  rintro e w3 ⟨z3,rfl,h30,h31,hR3,hO3⟩
  obtain ⟨m3,rfl⟩:=Int.eq_ofNat_of_zero_le h30
  have hm3:m3<5:=by omega
  have R3:=ae hR3
  have O3:=ae (OL.out.trans hO3)
  obtain ⟨sx,hcx⟩:=jm ((hO3.block (w.heap.size+1) hs3 (by omega)).trans HL3.out) m3 hm3
  clear hR3 hO3 HL3 RL OL
  go_wp2
  go_ret
  exact ⟨sx,rfl,_,by omega,R3.out,O3.out⟩
def DMk (w:World)(e:Ending)(w':World):Prop:=∃ (a0:Option Addr) (n0 c0:Nat) (f0:Nat→Source) (a1:Option Addr) (n1 c1:Nat) (f1:Nat→Target) (t:ByteArray),e=.returned (.tuple #[.agg #[.slice a0 n0 c0,.slice a1 n1 c1],.string t])∧HSp w.heap.size w' a0 n0 f0 a1 n1 f1∧Below w.heap.size w w'
theorem mI (a:Option Addr)(n cap:Nat)(w:World)(hn:(n:Int)≤1048576)(hc:n≤cap)(hS:ByteSl w a n) :
  Calls Tryz.prog 99 #[.slice a n cap] w fun e w'=>DMk w e w':=by
 have S0:=ae hS
 clear hS
 go_enter Tryz.func99,Tryz.ntmps99
 go_wp2_with fail
 have A0:=ae ((Below.refl w.heap.size w).alloc lr (.cells #[.slice none 0 0,.slice none 0 0] 26))
 have KA:Hid ((w.alloc (.cells #[.slice none 0 0,.slice none 0 0] 26)).heap[w.heap.size]?=some (.cells #[.slice none 0 0,.slice none 0 0] 26 (0,0))):=heap_alloc_new w _
 have hzA:(w.alloc (.cells #[.slice none 0 0,.slice none 0 0] 26)).heap.size=w.heap.size+1:=by simp
 generalize w.alloc (.cells #[.slice none 0 0,.slice none 0 0] 26)=W0 at A0 KA hzA ⊢
 refine (qy a n cap _ hn hc (S0.out.below A0.out lr)).mono ?_
 rintro e w1 ⟨R,rfl,hRz,hR1,hB1⟩
 have R1:=ae hR1
 have B1:=ae (A0.out.trans (hB1.mono (by omega)))
 have K1:=ae ((hB1.block w.heap.size (by omega)).trans KA.out)
 have hs1:=hB1.size
 have hRl:=hR1.lt
 clear hR1 hB1 A0 KA
 go_wp2_with fail
 refine (td R 0 _ R1.out (by omega)).mono ?_
 rintro e w2 ⟨a0,n0,c0,f0,a1,n1,c1,f1,rfl,hH2,q2,hq2,hR2,hO2⟩
 have hs2:=hO2.size
 have BS:=ae ((Below.refl w2.heap.size w2).alloc lr (.cells #[.slice a0 n0 c0,.slice a1 n1 c1] 26))
 have R7:=ae (hR2.below BS.out lr)
 have B2:=B1.out.trans (hO2.below (by omega) B1.out.size)
 have B7:=ae (B2.trans (BS.out.mono B2.size))
 have H7:=ae (hH2.agr (dC BS.out lr))
 have K7:=ae ((BS.out.block w.heap.size (by omega)).trans ((hO2.block w.heap.size (by omega) (by omega)).trans K1.out))
 have S7:Hid ((w2.alloc (.cells #[.slice a0 n0 c0,.slice a1 n1 c1] 26)).heap[w2.heap.size]?=some (.cells #[.slice a0 n0 c0,.slice a1 n1 c1] 26 (0,0))):=heap_alloc_new w2 _
 have hRb:R<w1.heap.size:=hRl
 clear BS hH2 hR2 hO2 B2 B1 K1 R1
 go_upto_region 3 with fail
 generalize w2.alloc (.cells #[.slice a0 n0 c0,.slice a1 n1 c1] 26)=w7 at R7 B7 H7 K7 S7 ⊢
 go_wp2_with fail
 have SB:Hid (∀ V:World,V.heap[w2.heap.size]?=some (.cells #[.slice a0 n0 c0,.slice a1 n1 c1] 26 (0,0))→V.heap[w2.heap.size]?=some (.cells #[.slice a0 n0 c0,.slice a1 n1 c1] 26 (0,0))∧V.cell? ⟨w2.heap.size,0,none⟩=some (.slice a0 n0 c0)∧V.cell? ⟨w2.heap.size,1,none⟩=some (.slice a1 n1 c1)):=fun V h=>⟨h,by simp [World.cell?,h],by simp [World.cell?,h]⟩
 refine wp_region_held_drew (S:=fun V=>V.heap[w2.heap.size]?=some (.cells #[.slice a0 n0 c0,.slice a1 n1 c1] 26 (0,0))∧V.cell? ⟨w2.heap.size,0,none⟩=some (.slice a0 n0 c0)∧V.cell? ⟨w2.heap.size,1,none⟩=some (.slice a1 n1 c1)) (by as_aux_lemma=>kernel_rfl) (SB.out w7 S7.out) (fun hS=>?_)
 have HS:=ae hS
 clear hS
 iterate 3
  refine aL 0 (v:=?_) rfl rfl (by as_aux_lemma=>kernel_rfl) (fun _ _ _ h=>h) rfl ?_ HS.out ?_
  rotate_left
  ·(intro wz hSw;obtain ⟨s0,s1,s2⟩:=hSw;go_simp)
   (try with_reducible rfl)
  (try simp only [Act.put,nzL])
 refine bm (i:=3) rfl (by as_aux_lemma=>kernel_rfl) (fun K hK=>?_)
 go_simp
 go_at_call 52
 refine (kI R _ w1.heap.size n0 c0 n1 c1 a0 f0 a1 f1 _ (R7.out.below br.drew lr) (by omega) hRb (H7.out.agr (dC br.drew lr))).mono ?_
 rintro e w8 ⟨t,rfl,q8,hq8,hR,hO'⟩
 have hO:Only R w7 w8:=(Only.of_below br.drew).trans hO'
 clear hO' HS
 have B8:=ae (B7.out.trans (hO.below (by omega) B7.out.size))
 have H8:=ae (H7.out.agr (hO.agr hRb))
 have K8:=ae ((hO.block w.heap.size (az K7.out) (by omega)).trans K7.out)
 have S8:=ae ((hO.block w2.heap.size (az S7.out) (by omega)).trans S7.out)
 have R8:=ae hR
 clear hO hR B7 H7 K7 S7 R7
 have HS:=ae (SB.out w8 S8.out)
 refine hK.out _ _ HS.out ?_
 clear hK K
 (try simp only [Act.put,nzL])
 have HM:=ae (H8.out.mono (show w.heap.size+1≤w1.heap.size by omega))
 have kr:=K8.out
 have r0:w8.cell? ⟨w.heap.size,0,none⟩=some (.slice none 0 0):=by simp [World.cell?,kr]
 have r1:w8.cell? ⟨w.heap.size,1,none⟩=some (.slice none 0 0):=by simp [World.cell?,kr]
 have f0:w8.frozen? ⟨w.heap.size,0,none⟩=false:=by simp [World.frozen?,kr]
 have f1:w8.frozen? ⟨w.heap.size,1,none⟩=false:=by simp [World.frozen?,kr]
 have l0:=az kr
 clear kr
 refine bm (i:=4) rfl (by as_aux_lemma=>kernel_rfl) (fun K hK=>?_)
 go_simp
 clear HS
 have HS:=ae (SB.out ((w8.setCell ⟨w.heap.size,0,none⟩ (.slice a0 n0 c0)).setCell ⟨w.heap.size,1,none⟩ (.slice a1 n1 c1)) (((Below.heap_setCell _ ⟨w.heap.size,1,none⟩ _ w2.heap.size (by show w2.heap.size≠w.heap.size;omega)).trans (Below.heap_setCell _ ⟨w.heap.size,0,none⟩ _ w2.heap.size (by show w2.heap.size≠w.heap.size;omega))).trans S8.out))
 refine hK.out _ _ HS.out ?_
 clear hK K
 (try simp only [Act.put,nzL])
 have BE:=ae ((B8.out.setCell (p:=⟨w.heap.size,0,none⟩) lr (.slice a0 n0 c0)).setCell (p:=⟨w.heap.size,1,none⟩) lr (.slice a1 n1 c1))
 have HE2:=ae ((HM.out.agr ((dl (j:=0) (show w.heap.size<w.heap.size+1 by omega) (.slice a0 n0 c0)).trans (dl (j:=1) (show w.heap.size<w.heap.size+1 by omega) (.slice a1 n1 c1)))).mono (Nat.le_succ w.heap.size))
 refine bm (i:=5) rfl (by as_aux_lemma=>kernel_rfl) (fun K hK=>?_)
 go_simp
 refine hK.out _ _ HS.out ?_
 clear hK K
 (try simp only [Act.put,nzL])
 refine wpAnyH_done (by as_aux_lemma=>kernel_rfl) ?_ _
 go_wp2
 exact bodyPost_ret (v:=.tuple #[.agg #[.slice a0 n0 c0,.slice a1 n1 c1],.string t]) (by simp [results,Tryz.results99,go_sem,r0,r1]) rfl ⟨_,_,_,_,_,_,_,_,_,rfl,HE2.out,BE.out⟩
theorem oo (a:Option Addr)(n cap:Nat)(w:World)(hn:(n:Int)≤1048576)(hc:n≤cap)(hS:ByteSl w a n) :
  Calls Tryz.prog 28 #[.slice a n cap] w fun e w'=>DMk w e w':=by
 have A0:=ae ((Below.refl w.heap.size w).alloc lr (.cells #[.slice none 0 0,.slice none 0 0] 26))
 have KA:Hid ((w.alloc (.cells #[.slice none 0 0,.slice none 0 0] 26)).heap[w.heap.size]?=some (.cells #[.slice none 0 0,.slice none 0 0] 26 (0,0))):=heap_alloc_new w _
 have hzA:(w.alloc (.cells #[.slice none 0 0,.slice none 0 0] 26)).heap.size=w.heap.size+1:=by simp
 have DC:=ae (mI a n cap (w.alloc (.cells #[.slice none 0 0,.slice none 0 0] 26)) hn hc (hS.below A0.out lr))
 clear hS
 go_enter Tryz.func28,Tryz.ntmps28
 go_wp2_with fail
 generalize w.alloc (.cells #[.slice none 0 0,.slice none 0 0] 26)=W0 at A0 KA hzA DC ⊢
 refine DC.out.mono ?_
 rintro e w1 ⟨a0,n0,c0,f0,a1,n1,c1,f1,t,rfl,hH,hB⟩
 have kr:=(hB.block w.heap.size (by omega)).trans KA.out
 have r0:w1.cell? ⟨w.heap.size,0,none⟩=some (.slice none 0 0):=by simp [World.cell?,kr]
 have r1:w1.cell? ⟨w.heap.size,1,none⟩=some (.slice none 0 0):=by simp [World.cell?,kr]
 have f0':w1.frozen? ⟨w.heap.size,0,none⟩=false:=by simp [World.frozen?,kr]
 have f1':w1.frozen? ⟨w.heap.size,1,none⟩=false:=by simp [World.frozen?,kr]
 have l0:=az kr
 have BE:=ae (((A0.out.trans (hB.mono (by omega))).setCell (p:=⟨w.heap.size,0,none⟩) lr (.slice a0 n0 c0)).setCell (p:=⟨w.heap.size,1,none⟩) lr (.slice a1 n1 c1))
 have HE2:=ae (((hH.mono (show w.heap.size+1≤W0.heap.size by omega)).agr ((dl (j:=0) (show w.heap.size<w.heap.size+1 by omega) (.slice a0 n0 c0)).trans (dl (j:=1) (show w.heap.size<w.heap.size+1 by omega) (.slice a1 n1 c1)))).mono (Nat.le_succ w.heap.size))
 clear hH hB kr DC KA A0
 go_wp2
 exact bodyPost_ret (v:=.tuple #[.agg #[.slice a0 n0 c0,.slice a1 n1 c1],.string t]) (by simp [results,Tryz.results28,go_sem,r0,r1]) rfl ⟨_,_,_,_,_,_,_,_,_,rfl,HE2.out,BE.out⟩
end Go.Proofs.YtkophfgkcijjkaaGreatDoor.Vp
