import Derived.Test.YtkophfgkcijjkaaGreatDoorYJ
import Derived.Test.YtkophfgkcijjkaaGreatDoorZA
import Derived.Test.YtkophfgkcijjkaaGreatDoorZB
set_option maxRecDepth 100000
set_option maxHeartbeats 8000000
namespace Go.Proofs.YtkophfgkcijjkaaGreatDoor.Vp
open RowKit Ca
def DF (w:World)(e:Ending)(w':World):Prop:=∃ (a0:Option Addr) (n0 c0:Nat) (f0:Nat→Source) (a1:Option Addr) (n1 c1:Nat) (f1:Nat→Target),e=.returned (.agg #[.slice a0 n0 c0,.slice a1 n1 c1])∧HSp w.heap.size w' a0 n0 f0 a1 n1 f1∧Below w.heap.size w w'
def DFn (n:Nat)(w:World)(e:Ending)(w':World):Prop:=∃ (a0:Option Addr) (n0 c0:Nat) (f0:Nat→Source) (a1:Option Addr) (n1 c1:Nat) (f1:Nat→Target),e=.returned (.agg #[.slice a0 n0 c0,.slice a1 n1 c1])∧n1=n∧HSp w.heap.size w' a0 n0 f0 a1 n1 f1∧Below w.heap.size w w'
theorem pa (n:Nat)(hn:n≤200)(en:ByteArray)(he:en.size≤5000)(w:World) :
  Calls Tryz.prog 123 #[.int .i64 n,.string en] w fun e w'=>DFn n w e w':=by
 obtain ⟨i1',hj,hz0,hz1,hz2⟩:=info_parts fK
 have hzA:(w.alloc (.cells #[.slice none 0 0,.slice none 0 0] 26)).heap.size=w.heap.size+1:=by simp
 have hzB:((w.alloc (.cells #[.slice none 0 0,.slice none 0 0] 26)).alloc (.cells #[.string ⟨#[97]⟩,.string ⟨#[103,114,111,117,110,100]⟩] 100)).heap.size=w.heap.size+1+1:=by simp
 have A0:=ae (((((Below.refl w.heap.size w).alloc lr (.cells #[.slice none 0 0,.slice none 0 0] 26))).alloc (by omega) (.cells #[.string ⟨#[97]⟩,.string ⟨#[103,114,111,117,110,100]⟩] 100)).alloc (by omega) (.cells #[.slice (some ⟨w.heap.size+1,0,none⟩) 1 1,.slice none 0 0] 26))
 have X1:Hid (SpX w.heap.size (w.heap.size+1+1) (w.heap.size+1) (((w.alloc (.cells #[.slice none 0 0,.slice none 0 0] 26)).alloc (.cells #[.string ⟨#[97]⟩,.string ⟨#[103,114,111,117,110,100]⟩] 100)).alloc (.cells #[.slice (some ⟨w.heap.size+1,0,none⟩) 1 1,.slice none 0 0] 26)) (.slice (some ⟨w.heap.size+1,0,none⟩) 1 1) (.slice none 0 0) [⟨⟨#[97]⟩,⟨#[103,114,111,117,110,100]⟩⟩] []):=by
  have k1:=heap_alloc_new w (.cells #[.slice none 0 0,.slice none 0 0] 26)
  have k2:=heap_alloc_new (w.alloc (.cells #[.slice none 0 0,.slice none 0 0] 26)) (.cells #[.string ⟨#[97]⟩,.string ⟨#[103,114,111,117,110,100]⟩] 100)
  rw [hzA] at k2
  have BQ:=(Below.refl (w.heap.size+1) (w.alloc (.cells #[.slice none 0 0,.slice none 0 0] 26))).alloc (by omega) (.cells #[.string ⟨#[97]⟩,.string ⟨#[103,114,111,117,110,100]⟩] 100)
  have h:=pK (LS:=[⟨⟨#[97]⟩,⟨#[103,114,111,117,110,100]⟩⟩]) (base:=w.heap.size+1) (base':=w.heap.size+1) ((BQ.block w.heap.size (Nat.lt_succ_self _)).trans k1) (Nat.lt_succ_self _) lr (by omega) (v0:=.slice (some ⟨w.heap.size+1,0,none⟩) 1 1) ⟨rfl,.inr ⟨w.heap.size+1,1,_,rfl,Nat.le_refl _,k2,Nat.le_refl _,by unfold maxLen;omega,rfl,rfl⟩⟩ (jI _ _)
  rw [hzB] at h
  exact h
 have hw2:IntKind.i64.wrap ((n:Int) - 1)=(n:Int) - 1:=by rw [IntKind.wrap_i64];omega
 clear hzA hzB
 go_enter Tryz.func123,Tryz.ntmps123
 go_wp2_with fail
 generalize ((w.alloc (.cells #[.slice none 0 0,.slice none 0 0] 26)).alloc (.cells #[.string ⟨#[97]⟩,.string ⟨#[103,114,111,117,110,100]⟩] 100)).alloc (.cells #[.slice (some ⟨w.heap.size+1,0,none⟩) 1 1,.slice none 0 0] 26)=W2 at X1 A0 ⊢
 obtain ⟨LS,a2,c2,hLS,X1'⟩:∃ (LS:List Source) (a2:Option Addr) (c2:Nat),LS.length≤300∧Hid (SpX w.heap.size (w.heap.size+1+1) (w.heap.size+1) W2 (.slice a2 LS.length c2) (.slice none 0 0) LS []):=⟨[⟨⟨#[97]⟩,⟨#[103,114,111,117,110,100]⟩⟩],some ⟨w.heap.size+1,0,none⟩,1,by show 1≤300;omega,X1.out⟩
 clear X1
 generalize hxb:w.heap.size+1+1=xb at X1' ⊢
 clear hxb
 go_loopw [6] (fun i wr=>∃ (k:Nat) (v1:Value) (RT':List TR),i=.int .i64 k∧k≤n∧RT'.length=k∧Hid (SpX w.heap.size xb (w.heap.size+1) wr (.slice a2 LS.length c2) v1 LS RT')∧Hid (GX RT')∧Hid (Below w.heap.size w wr)) (fun i _=>n - (intOf i).toNat)
 case atStart=>exact ⟨0,_,[],rfl,by omega,rfl,X1'.out,fun _ h=>absurd h List.not_mem_nil,A0.out⟩
 case round =>
  obtain ⟨k,v1,RT',rfl,hk,hkl,X2,G2,B2⟩:=hrel
  have HK:Hid (RT'.length=k):=hkl
  obtain ⟨a5,c5,rfl⟩:=bz X2.out.tgt.own
  obtain ⟨kc0,kc1⟩:=X2.out.cells
  have hxl:=X2.out.lt
  have hrn:RT'.length≤200:=by omega
  clear hkl
  by_cases hlt:k<n
  ·have hwk:IntKind.i64.wrap ((k:Int)+1)=(k:Int)+1:=by rw [IntKind.wrap_i64];omega
   go_wp2_with fail
   refine (ft (k+1) (by omega) _).mono ?_
   rintro e wa ⟨nb,rfl,hnb,hBa⟩
   have X3:=ae (X2.out.below hBa lr)
   have B3:=ae (B2.out.trans (hBa.mono B2.out.size))
   obtain ⟨kc0,kc1⟩:=X3.out.cells
   have hxl:=X3.out.lt
   clear hBa
   by_cases hla:(n:Int) - 1=(k:Int)
   ·go_wp2_with fail
    clear hla
    clear kc0 kc1
    have SQ:Hid (∀ V:World,(∀ j,j<wa.heap.size→some j≠(Value.slice a5 RT'.length c5).ownBlock→V.heap[j]?=wa.heap[j]?)→V.heap[xb]?=some (.cells #[.slice a2 LS.length c2,.slice a5 RT'.length c5] 26 (0,0))∧V.cell? ⟨xb,1,none⟩=some (.slice a5 RT'.length c5)):=fun V hV=>by
     have h1:=(hV xb X3.out.lt fun e=>by
      obtain ⟨cur,hcur⟩:=X3.out.tgt.type _ e.symm
      have h3:=X3.out.box.symm.trans hcur
      cases h3).trans X3.out.box
     exact ⟨h1,by simp [World.cell?,h1]⟩
    refine aN (fun V=>V.heap[xb]?=some (.cells #[.slice a2 LS.length c2,.slice a5 RT'.length c5] 26 (0,0))∧V.cell? ⟨xb,1,none⟩=some (.slice a5 RT'.length c5)) 14 (by as_aux_lemma=>kernel_rfl) ?_
    have HS:=ae (SQ.out wa.drew (fun j hj _=>rfl))
    iterate 3
     refine aF 0 (v:=?_) rfl rfl (by as_aux_lemma=>kernel_rfl) (fun _ _ _ h=>h) rfl ?_ HS.out ?_
     rotate_left
     ·(intro wz hSw;obtain ⟨s0,s1⟩:=hSw;go_simp)
      (try with_reducible rfl)
     (try simp only [Act.put,nzL])
    refine aF 4 (v:=?_) rfl rfl (by as_aux_lemma=>kernel_rfl) (fun _ _ _ h=>h) rfl ?_ HS.out ?_
    rotate_left
    ·(intro wz hSw;obtain ⟨s0,s1⟩:=hSw;go_simp)
     (try with_reducible rfl)
    (try simp only [Act.put,nzL])
    refine aj (i:=3) rfl (by as_aux_lemma=>kernel_rfl) (fun K hK=>?_)
    go_simp
    go_at_call 127
    refine (ft k (by omega) _).mono ?_
    rintro e wl ⟨tn,rfl,htn,hBl⟩
    have BL:Hid (Below wa.heap.size wa wl):=(Below.refl wa.heap.size wa).drew.trans hBl
    clear hBl HS
    have HS:=ae (SQ.out wl (fun j hj _=>BL.out.block j hj))
    refine hK.out _ _ (fun _=>HS.out) ?_
    clear hK K
    (try simp only [Act.put,nzL])
    refine aj (i:=5) rfl (by as_aux_lemma=>kernel_rfl) (fun K hK=>?_)
    go_simp
    go_at_call 128
    refine (aV _ _).mono ?_
    rintro e wm ⟨rfl,hBm⟩
    have BM:=ae (BL.out.trans (hBm.mono BL.out.size))
    clear hBm HS
    have HS:=ae (SQ.out wm (fun j hj _=>BM.out.block j hj))
    refine hK.out _ _ (fun _=>HS.out) ?_
    clear hK K
    (try simp only [Act.put,nzL])
    refine aj (i:=6) rfl (by as_aux_lemma=>kernel_rfl) (fun K hK=>?_)
    go_simp
    go_at_call 129
    refine (aP _ _).mono ?_
    rintro e wo ⟨rfl,hBo⟩
    have BO:=ae (BM.out.trans (hBo.mono BM.out.size))
    clear hBo HS
    have HS:=ae (SQ.out wo (fun j hj _=>BO.out.block j hj))
    refine hK.out _ _ (fun _=>HS.out) ?_
    clear hK K
    (try simp only [Act.put,nzL])
    refine aj (i:=7) rfl (by as_aux_lemma=>kernel_rfl) (fun K hK=>?_)
    go_simp
    go_at_call 129
    refine (aP _ _).mono ?_
    rintro e wn ⟨rfl,hBn⟩
    have BN:=ae (BO.out.trans (hBn.mono BO.out.size))
    clear hBn HS BL BM BO
    have hzn:=BN.out.size
    have BI:=ae (BN.out.alloc (by omega) (.cells #[.int .i64 1,.string en,.int .i64 0,.int .i64 12,.string ⟨#[]⟩,.int .i64 0,.int .i64 15,.string ⟨#[]⟩,.int .i64 0] 176))
    have hxi:=X3.out.hi
    have OI:=ae (lU wn en (base:=w.heap.size+1) (by omega))
    have HS:=ae (SQ.out wn (fun j hj _=>BN.out.block j hj))
    refine hK.out _ _ (fun _=>HS.out) ?_
    clear hK K HS
    (try simp only [Act.put,nzL])
    have HS:=ae (SQ.out _ (fun j hj _=>BI.out.block j hj))
    iterate 3
     refine cj 8 rfl rfl (by as_aux_lemma=>kernel_rfl) (fun K hK=>?_)
     go_simp
     refine hK.out _ _ (fun _=>HS.out) ?_
     clear hK K
     (try simp only [Act.put,nzL])
    have hzb:(wn.alloc (.cells #[.int .i64 1,.string en,.int .i64 0,.int .i64 12,.string ⟨#[]⟩,.int .i64 0,.int .i64 15,.string ⟨#[]⟩,.int .i64 0] 176)).heap.size=wn.heap.size+1:=by simp
    have AB:=ae (BI.out.alloc (by omega) (.cells #[.string tn,.slice (some ⟨wn.heap.size,0,none⟩) 3 3] 104))
    refine aj (i:=11) rfl (by as_aux_lemma=>kernel_rfl) (fun K hK=>?_)
    go_simp
    have XA:=ae (X3.out.below AB.out lr)
    have OA:=ae (own_below OI.out (br.alloc lr (.cells #[.string tn,.slice (some ⟨wn.heap.size,0,none⟩) 3 3] 104)) lr)
    refine hK.out _ _ (fun _=>SQ.out _ (fun j hj _=>AB.out.block j hj)) ?_
    clear hK K
    (try simp only [Act.put,nzL])
    refine aj (i:=12) rfl (by as_aux_lemma=>kernel_rfl) (fun K hK=>?_)
    refine aK rfl (.tmp 25) (.tmp 35) 24 rfl (w.heap.size+1) 104 i1' (.agg #[.string ⟨#[]⟩,.slice none 0 0]) 2 40 Tryz.underlying24 hj hz0 hz1 hz2 rfl (by decide) (.slice a5 RT'.length c5) RT'.length (RT'.flatMap bu) (by simp [Act.eval]) XA.out.tgt.own ⟨wn.heap.size+1,0,none⟩ 1 1 (bu (⟨tn,3,lsI (dQ en)⟩,wn.heap.size,3)) (by simp [Act.eval]) rfl (fun j u hu=>ij (hzb) _ _ _ j u hu) (by simp [bu,Value.oneCell']) (by unfold maxLen;omega) (by omega) (by have:=XA.out.hi;have:=XA.out.lt;omega) ?_
    intro v' w7 hown hgrow _
    obtain ⟨a7,c7,rfl⟩:=bz hown
    have S7:=ae (SQ.out w7 (fun j hj hne=>(hgrow.block j (ll hj AB.out.size) hne).trans (AB.out.block j hj)))
    obtain ⟨c8,b8⟩:=XA.out.addT (x:=⟨tn,3,lsI (dQ en)⟩) (g:=wn.heap.size) (c:=3) (fun r hr e=>by have:=X3.out.tgt.ltg r hr;omega) OA.out hown hgrow
    have X9:=ae c8
    have B9:=ae b8
    clear hown hgrow c8 b8
    refine hK.out _ _ (fun _=>S7.out) ?_
    clear hK K
    (try simp only [Act.put,nzL])
    refine aj (i:=13) rfl (by as_aux_lemma=>kernel_rfl) (fun K hK=>?_)
    go_simp
    refine hK.out _ _ (fun _=>S7.out) ?_
    clear hK K
    (try simp only [Act.put,nzL])
    obtain ⟨s7,t7⟩:=S7.out
    have f7:w7.frozen? ⟨xb,1,none⟩=false:=by simp [World.frozen?,s7]
    have l7:=az s7
    clear s7
    refine aj (i:=14) rfl (by as_aux_lemma=>kernel_rfl) (fun K hK=>?_)
    go_simp
    refine hK.out _ _ (fun h=>absurd rfl h) ?_
    clear hK K
    (try simp only [Act.put,nzL])
    refine bc (by as_aux_lemma=>kernel_rfl) ?_ _
    go_wp2
    have BB:=ae ((AB.out.mono (show w.heap.size+1≤wa.heap.size by omega)).trans B9.out)
    refine ⟨⟨k+1,.slice a7 (RT'.length+1) c7,RT'++[((⟨tn,3,lsI (dQ en)⟩,wn.heap.size,3):TR)],by go_num,by omega,by rw [List.length_append,HK.out];rfl,X9.out,G2.out.add (r:=(⟨tn,3,lsI (dQ en)⟩,wn.heap.size,3)) (by show 3≤300;omega) (kH (by omega)),B3.out.trans (BB.out.mono (by omega))⟩,by simp [intOf];omega⟩
   ·have hlb:¬ (k:Int)=(n:Int) - 1:=fun e=>hla e.symm
    clear hla
    go_wp2_with fail
    clear hlb
    clear kc0 kc1
    have SQ:Hid (∀ V:World,(∀ j,j<wa.heap.size→some j≠(Value.slice a5 RT'.length c5).ownBlock→V.heap[j]?=wa.heap[j]?)→V.heap[xb]?=some (.cells #[.slice a2 LS.length c2,.slice a5 RT'.length c5] 26 (0,0))∧V.cell? ⟨xb,1,none⟩=some (.slice a5 RT'.length c5)):=fun V hV=>by
     have h1:=(hV xb X3.out.lt fun e=>by
      obtain ⟨cur,hcur⟩:=X3.out.tgt.type _ e.symm
      have h3:=X3.out.box.symm.trans hcur
      cases h3).trans X3.out.box
     exact ⟨h1,by simp [World.cell?,h1]⟩
    refine aN (fun V=>V.heap[xb]?=some (.cells #[.slice a2 LS.length c2,.slice a5 RT'.length c5] 26 (0,0))∧V.cell? ⟨xb,1,none⟩=some (.slice a5 RT'.length c5)) 14 (by as_aux_lemma=>kernel_rfl) ?_
    have HS:=ae (SQ.out wa.drew (fun j hj _=>rfl))
    iterate 3
     refine aF 0 (v:=?_) rfl rfl (by as_aux_lemma=>kernel_rfl) (fun _ _ _ h=>h) rfl ?_ HS.out ?_
     rotate_left
     ·(intro wz hSw;obtain ⟨s0,s1⟩:=hSw;go_simp)
      (try with_reducible rfl)
     (try simp only [Act.put,nzL])
    refine aF 4 (v:=?_) rfl rfl (by as_aux_lemma=>kernel_rfl) (fun _ _ _ h=>h) rfl ?_ HS.out ?_
    rotate_left
    ·(intro wz hSw;obtain ⟨s0,s1⟩:=hSw;go_simp)
     (try with_reducible rfl)
    (try simp only [Act.put,nzL])
    refine aj (i:=3) rfl (by as_aux_lemma=>kernel_rfl) (fun K hK=>?_)
    go_simp
    go_at_call 127
    refine (ft k (by omega) _).mono ?_
    rintro e wl ⟨tn,rfl,htn,hBl⟩
    have BL:Hid (Below wa.heap.size wa wl):=(Below.refl wa.heap.size wa).drew.trans hBl
    clear hBl HS
    have HS:=ae (SQ.out wl (fun j hj _=>BL.out.block j hj))
    refine hK.out _ _ (fun _=>HS.out) ?_
    clear hK K
    (try simp only [Act.put,nzL])
    refine aj (i:=5) rfl (by as_aux_lemma=>kernel_rfl) (fun K hK=>?_)
    go_simp
    go_at_call 128
    refine (aV _ _).mono ?_
    rintro e wm ⟨rfl,hBm⟩
    have BM:=ae (BL.out.trans (hBm.mono BL.out.size))
    clear hBm HS
    have HS:=ae (SQ.out wm (fun j hj _=>BM.out.block j hj))
    refine hK.out _ _ (fun _=>HS.out) ?_
    clear hK K
    (try simp only [Act.put,nzL])
    refine aj (i:=6) rfl (by as_aux_lemma=>kernel_rfl) (fun K hK=>?_)
    go_simp
    go_at_call 129
    refine (aP _ _).mono ?_
    rintro e wo ⟨rfl,hBo⟩
    have BO:=ae (BM.out.trans (hBo.mono BM.out.size))
    clear hBo HS
    have HS:=ae (SQ.out wo (fun j hj _=>BO.out.block j hj))
    refine hK.out _ _ (fun _=>HS.out) ?_
    clear hK K
    (try simp only [Act.put,nzL])
    refine aj (i:=7) rfl (by as_aux_lemma=>kernel_rfl) (fun K hK=>?_)
    go_simp
    go_at_call 129
    refine (aP _ _).mono ?_
    rintro e wn ⟨rfl,hBn⟩
    have BN:=ae (BO.out.trans (hBn.mono BO.out.size))
    clear hBn HS BL BM BO
    have hzn:=BN.out.size
    have BI:=ae (BN.out.alloc (by omega) (.cells #[.int .i64 1,.string nb,.int .i64 0,.int .i64 12,.string ⟨#[]⟩,.int .i64 0,.int .i64 15,.string ⟨#[]⟩,.int .i64 0] 176))
    have hxi:=X3.out.hi
    have OI:=ae (lU wn nb (base:=w.heap.size+1) (by omega))
    have HS:=ae (SQ.out wn (fun j hj _=>BN.out.block j hj))
    refine hK.out _ _ (fun _=>HS.out) ?_
    clear hK K HS
    (try simp only [Act.put,nzL])
    have HS:=ae (SQ.out _ (fun j hj _=>BI.out.block j hj))
    iterate 3
     refine cj 8 rfl rfl (by as_aux_lemma=>kernel_rfl) (fun K hK=>?_)
     go_simp
     refine hK.out _ _ (fun _=>HS.out) ?_
     clear hK K
     (try simp only [Act.put,nzL])
    have hzb:(wn.alloc (.cells #[.int .i64 1,.string nb,.int .i64 0,.int .i64 12,.string ⟨#[]⟩,.int .i64 0,.int .i64 15,.string ⟨#[]⟩,.int .i64 0] 176)).heap.size=wn.heap.size+1:=by simp
    have AB:=ae (BI.out.alloc (by omega) (.cells #[.string tn,.slice (some ⟨wn.heap.size,0,none⟩) 3 3] 104))
    refine aj (i:=11) rfl (by as_aux_lemma=>kernel_rfl) (fun K hK=>?_)
    go_simp
    have XA:=ae (X3.out.below AB.out lr)
    have OA:=ae (own_below OI.out (br.alloc lr (.cells #[.string tn,.slice (some ⟨wn.heap.size,0,none⟩) 3 3] 104)) lr)
    refine hK.out _ _ (fun _=>SQ.out _ (fun j hj _=>AB.out.block j hj)) ?_
    clear hK K
    (try simp only [Act.put,nzL])
    refine aj (i:=12) rfl (by as_aux_lemma=>kernel_rfl) (fun K hK=>?_)
    refine aK rfl (.tmp 25) (.tmp 35) 24 rfl (w.heap.size+1) 104 i1' (.agg #[.string ⟨#[]⟩,.slice none 0 0]) 2 40 Tryz.underlying24 hj hz0 hz1 hz2 rfl (by decide) (.slice a5 RT'.length c5) RT'.length (RT'.flatMap bu) (by simp [Act.eval]) XA.out.tgt.own ⟨wn.heap.size+1,0,none⟩ 1 1 (bu (⟨tn,3,lsI (dQ nb)⟩,wn.heap.size,3)) (by simp [Act.eval]) rfl (fun j u hu=>ij (hzb) _ _ _ j u hu) (by simp [bu,Value.oneCell']) (by unfold maxLen;omega) (by omega) (by have:=XA.out.hi;have:=XA.out.lt;omega) ?_
    intro v' w7 hown hgrow _
    obtain ⟨a7,c7,rfl⟩:=bz hown
    have S7:=ae (SQ.out w7 (fun j hj hne=>(hgrow.block j (ll hj AB.out.size) hne).trans (AB.out.block j hj)))
    obtain ⟨c8,b8⟩:=XA.out.addT (x:=⟨tn,3,lsI (dQ nb)⟩) (g:=wn.heap.size) (c:=3) (fun r hr e=>by have:=X3.out.tgt.ltg r hr;omega) OA.out hown hgrow
    have X9:=ae c8
    have B9:=ae b8
    clear hown hgrow c8 b8
    refine hK.out _ _ (fun _=>S7.out) ?_
    clear hK K
    (try simp only [Act.put,nzL])
    refine aj (i:=13) rfl (by as_aux_lemma=>kernel_rfl) (fun K hK=>?_)
    go_simp
    refine hK.out _ _ (fun _=>S7.out) ?_
    clear hK K
    (try simp only [Act.put,nzL])
    obtain ⟨s7,t7⟩:=S7.out
    have f7:w7.frozen? ⟨xb,1,none⟩=false:=by simp [World.frozen?,s7]
    have l7:=az s7
    clear s7
    refine aj (i:=14) rfl (by as_aux_lemma=>kernel_rfl) (fun K hK=>?_)
    go_simp
    refine hK.out _ _ (fun h=>absurd rfl h) ?_
    clear hK K
    (try simp only [Act.put,nzL])
    refine bc (by as_aux_lemma=>kernel_rfl) ?_ _
    go_wp2
    have BB:=ae ((AB.out.mono (show w.heap.size+1≤wa.heap.size by omega)).trans B9.out)
    refine ⟨⟨k+1,.slice a7 (RT'.length+1) c7,RT'++[((⟨tn,3,lsI (dQ nb)⟩,wn.heap.size,3):TR)],by go_num,by omega,by rw [List.length_append,HK.out];rfl,X9.out,G2.out.add (r:=(⟨tn,3,lsI (dQ nb)⟩,wn.heap.size,3)) (by show 3≤300;omega) (kH (by omega)),B3.out.trans (BB.out.mono (by omega))⟩,by simp [intOf];omega⟩
  ·obtain rfl:k=n:=by omega
   have kr:=X2.out.res
   have r0:wr.cell? ⟨w.heap.size,0,none⟩=some (.slice none 0 0):=by simp [World.cell?,kr]
   have r1:wr.cell? ⟨w.heap.size,1,none⟩=some (.slice none 0 0):=by simp [World.cell?,kr]
   have f0:wr.frozen? ⟨w.heap.size,0,none⟩=false:=by simp [World.frozen?,kr]
   have f1:wr.frozen? ⟨w.heap.size,1,none⟩=false:=by simp [World.frozen?,kr]
   have l0:=az kr
   clear kr
   have BE:=ae ((B2.out.setCell (p:=⟨w.heap.size,0,none⟩) lr (.slice a2 LS.length c2)).setCell (p:=⟨w.heap.size,1,none⟩) lr (.slice a5 RT'.length c5))
   have HE:=ae ((X2.out.fin rfl rfl hLS (by omega) G2.out (.slice a2 LS.length c2) (.slice a5 RT'.length c5)).mono (Nat.le_succ w.heap.size))
   go_wp2
   exact bodyPost_ret (v:=.agg #[.slice a2 LS.length c2,.slice a5 RT'.length c5]) (by simp [results,Tryz.results123,go_sem,r0,r1]) rfl ⟨_,_,_,_,_,_,_,_,rfl,HK.out,HE.out,BE.out⟩
theorem pc (n:Nat)(hn:n≤200)(en:ByteArray)(he:en.size≤5000)(w:World):Calls Tryz.prog 123 #[.int .i64 n,.string en] w fun e w'=>DF w e w' :=
 (pa n hn en he w).mono fun _ _ ⟨a0,n0,c0,f0,a1,n1,c1,f1,h1,_,h2,h3⟩=>⟨a0,n0,c0,f0,a1,n1,c1,f1,h1,h2,h3⟩
end Go.Proofs.YtkophfgkcijjkaaGreatDoor.Vp
