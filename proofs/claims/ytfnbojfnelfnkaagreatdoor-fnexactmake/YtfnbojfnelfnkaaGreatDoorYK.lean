import Derived.Test.YtfnbojfnelfnkaaGreatDoorYJ
set_option maxRecDepth 1000000
set_option maxHeartbeats 8000000
namespace Go.Proofs.YtfnbojfnelfnkaaGreatDoor.Vp
open Go.RowKit Go.Proofs.YtfnbojfnelfnkaaGreatDoor.Ca
section
variable {w0:World}{S:Spc}{a0 a1:Option Addr}{c0 c1 hb:Nat}{md or st:Value}{making:List ByteArray}{made:List Ent}{L:List SM}
theorem make_src (C:SCtx w0 S a0 a1)(w:World)(nm:ByteArray)(h:SI w0 hb (.slice a0 S.n0 c0) (.slice a1 S.n1 c1) w making made L md or st)(hLn:L.length≤100000)(hmd:made.length≤100000)(h1:fI L nm=none)(si:Nat)(h2:atI (nm0 S.f0) S.n0 nm=some si)(h3:atI (nm1 S.f1) S.n1 nm=none) :
  Calls Tryz.prog 90 #[.pointer (some ⟨hb,0,none⟩),.string nm] w fun e w'=>∃ md' or',e=.returned (.agg #[.int .i64 0,.string (S.f0 si).text,.slice none 0 0])∧SI w0 hb (.slice a0 S.n0 c0) (.slice a1 S.n1 c1) w' making (made++[⟨nm,1,0,(S.f0 si).text,0,[]⟩]) ((L++[newM nm]).set L.length ⟨nm,0,(S.f0 si).text,[],.slice none 0 0,true⟩) md' or' st∧KS w0.heap.size XN w w':=by
 obtain ⟨im,him,hm0,hm1,hm2⟩:=infoS2 infoMade
 obtain ⟨i1,hi1,hy0,hy1,hy2⟩:=infoS2 infoStrS
 have A0:=hide ((Below.refl w.heap.size w).alloc lr (.cells #[.int .i64 0,.string ⟨#[]⟩,.slice none 0 0] 29))
 have kr:Hid ((w.alloc (.cells #[.int .i64 0,.string ⟨#[]⟩,.slice none 0 0] 29)).heap[w.heap.size]?=some (.cells #[.int .i64 0,.string ⟨#[]⟩,.slice none 0 0] 29 (0,0))):=heap_alloc_new _ _
 have S0:=hide (h.below A0.out lr)
 have hB0:w0.heap.size≤w.heap.size:=h.lt
 have e1:idxI (fI L nm)=-1:=by rw [h1];rfl
 obtain ⟨am,cm,rfl⟩:=sh_slice h.rmd
 obtain ⟨n,hn⟩:∃ n,n=L.length:=⟨_,rfl⟩
 have HN:=hide hn
 have CC:=hide C
 have hsm:=C.ok.small
 have hn1:n≤100000:=by omega
 clear h h1 hn C
 have es:idxI (atI (nm0 S.f0) S.n0 nm)=(si:Int):=by rw [h2];rfl
 have et:idxI (atI (nm1 S.f1) S.n1 nm)=-1:=by rw [h3];rfl
 have hsi:=(atI_some h2).1
 obtain ⟨sb,so,ha0,hrs⟩:∃ sb so,a0=some ⟨sb,so,none⟩∧RowSource w0 sb so S.n0 S.f0:=by
  rcases CC.out.src with h | ⟨b,off,e,hr⟩
  ·omega
  ·exact ⟨b,off,e,hr⟩
 have HRS:=hide hrs
 have HA0:=hide ha0
 obtain ⟨tx,htx⟩:∃ tx,tx=(S.f0 si).text:=⟨_,rfl⟩
 have HTX:=hide htx
 rw [← htx]
 clear h2 h3 hrs htx ha0
 go_enter Tryz.func90,Tryz.ntmps90
 go_wp2_with fail
 generalize w.alloc (.cells #[.int .i64 0,.string ⟨#[]⟩,.slice none 0 0] 29)=W0 at A0 kr S0 ⊢
 refine (find_any W0 nm S0.out hLn).mono ?_
 rintro e w1 ⟨rfl,hw1⟩
 rw [hw1,e1]
 clear hw1 e1
 obtain ⟨hbl,-,-,b2,-⟩:=S0.out.box.facts
 rw [← HN.out] at b2
 have A1:=hide ((Below.refl W0.heap.size W0).alloc lr (.cells #[.string nm,.int .i64 0,.string ⟨#[]⟩,.slice none 0 0,.slice none 0 0,.bool false] 146))
 have SA:=hide (S0.out.below A1.out lr)
 have RM:=hide (by have h:=SA.out.rmd;rw [← HN.out] at h;exact h)
 have hz1:(W0.alloc (.cells #[.string nm,.int .i64 0,.string ⟨#[]⟩,.slice none 0 0,.slice none 0 0,.bool false] 146)).heap.size=W0.heap.size+1:=by simp
 have HG:Hid (∀ w2:World,(W0.alloc (.cells #[.string nm,.int .i64 0,.string ⟨#[]⟩,.slice none 0 0,.slice none 0 0,.bool false] 146)).grownBy w2 (Value.slice am n cm).ownBlock→w2.heap[hb]?=(W0.alloc (.cells #[.string nm,.int .i64 0,.string ⟨#[]⟩,.slice none 0 0,.slice none 0 0,.bool false] 146)).heap[hb]?):=fun w2 hg=>hg.block hb (by omega) fun e=>by
  obtain ⟨_,_,cs,hc⟩:=own_cellsM RM.out hb e.symm
  exact absurd (two_types SA.out.box hc) (by decide)
 have hbs1:w0.heap.size≤(W0.alloc (.cells #[.string nm,.int .i64 0,.string ⟨#[]⟩,.slice none 0 0,.slice none 0 0,.bool false] 146)).heap.size:=SA.out.lt
 have hz1':W0.heap.size<(W0.alloc (.cells #[.string nm,.int .i64 0,.string ⟨#[]⟩,.slice none 0 0,.slice none 0 0,.bool false] 146)).heap.size:=by omega
 clear hz1
 go_upto_region 7 with (first
  | (at_builtin;refine wpList_append_at _ rfl (.tmp 46) (.tmp 49) 66 rfl w0.heap.size 146 im (.agg #[.string ⟨#[]⟩,.int .i64 0,.string ⟨#[]⟩,.slice none 0 0,.slice none 0 0,.bool false]) 6 96 Tryz.underlying66 him hm0 hm1 hm2 rfl (by decide) (.slice am n cm) n (L.flatMap smV) (by simp [Act.eval]) RM.out ⟨W0.heap.size,0,none⟩ 1 1 [.string nm,.int .i64 0,.string ⟨#[]⟩,.slice none 0 0,.slice none 0 0,.bool false] (by simp [Act.eval]) rfl (six_new2 W0 _ _ _ _ _ _ _) (by simp [Value.oneCell']) (by unfold maxLen;omega) (by omega) hbs1 ?_;intro v2 w2 hown hgrow hat;have O2:=hide hown;have G2:=hide hgrow;have hb2:=hide (HG.out w2 hgrow);obtain ⟨g2,cp2,cu2,rfl,hq2⟩:=hown.2.resolve_left (fun h=>by omega);clear hq2 hown hgrow hat;obtain ⟨hbl2,-,-,f2,-,-,-,-,-,-,ff⟩:=(ShBox.blk SA.out.box hb2.out).facts;have ff2:=ff 2;clear ff)
  | fail)
 have SX:=hide (SA.out.addL (m:=newM nm) (w':=w2) (v:=.slice (some ⟨g2,0,none⟩) (n+1) cp2) (by rw [← HN.out];exact G2.out) (by rw [← HN.out];exact O2.out) rfl)
 have S3:=hide SX.out.1
 have K3:Hid (KS w0.heap.size XN w (w2.setCell ⟨hb,2,none⟩ (.slice (some ⟨g2,0,none⟩) (n+1) cp2))):=((KS.of_below (X:=XN) A0.out lr hB0).to (KS.of_below A1.out lr S0.out.lt)).to SX.out.2
 have kr3:Hid ((w2.setCell ⟨hb,2,none⟩ (.slice (some ⟨g2,0,none⟩) (n+1) cp2)).heap[w.heap.size]?=some (.cells #[.int .i64 0,.string ⟨#[]⟩,.slice none 0 0] 29 (0,0))):=by
  have h0:=(A1.out.block _ (heap_lt kr.out)).trans kr.out
  exact (SX.out.2.blk _ _ _ _ h0 (by decide) (by decide) (by decide) fun h=>h).trans h0
 have hL1:(L++[newM nm]).length=n+1:=by rw [List.length_append,List.length_singleton,← HN.out]
 have hLk:Hid ((L++[newM nm])[n]?=some (newM nm)):=by rw [HN.out];show _=_;rw [List.getElem?_append_right lr,Nat.sub_self];rfl
 clear SX f2 ff2 hbl2 b2 hbl RM SA A1 HG O2 G2 hb2
 generalize w2.setCell ⟨hb,2,none⟩ (.slice (some ⟨g2,0,none⟩) (n+1) cp2)=W3 at S3 K3 kr3 ⊢
 obtain ⟨hbl,b0,b1,-⟩:=S3.out.box.facts
 go_wp2_with fail
 refine (l2Source_at a0 S.n0 c0 a1 S.n1 c1 S.f0 nm W3 (by omega) (CC.out.src.below S3.out.bel lr)).mono ?_
 rintro e w4 ⟨he,hB⟩
 rw [es] at he
 subst he
 have S4:=hide (S3.out.below hB lr)
 have kr4:Hid (w4.heap[w.heap.size]?=_):=(hB.block _ (heap_lt kr3.out)).trans kr3.out
 have K4:=hide (K3.out.to (KS.of_below (X:=XN) hB lr S3.out.lt))
 clear hB b0 b1 hbl S3 K3 kr3
 obtain ⟨hbl,b0,b1,-⟩:=S4.out.box.facts
 go_wp2_with fail
 refine (l2Target_at a0 S.n0 c0 a1 S.n1 c1 S.f1 nm w4 (by omega) (CC.out.tgt.below S4.out.bel lr)).mono ?_
 rintro e w5 ⟨he,hB⟩
 rw [et] at he
 subst he
 have S5:=hide (S4.out.below hB lr)
 have kr5:Hid (w5.heap[w.heap.size]?=some (.cells #[.int .i64 0,.string ⟨#[]⟩,.slice none 0 0] 29 (0,0))):=(hB.block _ (heap_lt kr4.out)).trans kr4.out
 have K5:=hide (K4.out.to (KS.of_below (X:=XN) hB lr S4.out.lt))
 clear hB b0 b1 hbl S4 K4 kr4 A0 S0 kr
 have A5:=hide ((Below.refl w5.heap.size w5).alloc lr (.cells #[.int .i64 4,.string nm,.slice none 0 0] 29))
 have S5a:=hide (S5.out.below A5.out lr)
 have hI0:(0:Int)≤(si:Int):=by omega
 have hI1:(si:Int)<(S.n0:Int):=by omega
 have q0:(w5.alloc (.cells #[.int .i64 4,.string nm,.slice none 0 0] 29)).cell? ⟨hb,0,none⟩=some (.slice (some ⟨sb,so,none⟩) S.n0 c0):=by have h:=S5a.out.box.facts.2.1;rw [HA0.out] at h;exact h
 have q1:(w5.alloc (.cells #[.int .i64 4,.string nm,.slice none 0 0] 29)).cell? ⟨sb,so+si*2+1,none⟩=some (.string tx):=by
  rw [HTX.out]
  exact ((HRS.out.below S5a.out.bel lr).2 si hsi).2
 have hbl:=S5.out.box.facts.1
 have ql:sb<w5.heap.size:=Nat.lt_of_lt_of_le HRS.out.1 S5.out.lt
 go_upto_region 13 with fail
 clear q0 q1 ql hbl A5 S5a
 have A6:=hide ((Below.refl w5.heap.size w5).alloc lr (.cells #[.int .i64 0,.string tx,.slice none 0 0] 29))
 have kb:Hid ((w5.alloc (.cells #[.int .i64 0,.string tx,.slice none 0 0] 29)).heap[w5.heap.size]?=some (.cells #[.int .i64 0,.string tx,.slice none 0 0] 29 (0,0))):=heap_alloc_new _ _
 generalize w5.alloc (.cells #[.int .i64 0,.string tx,.slice none 0 0] 29)=W6 at A6 kb ⊢
 have S6:=hide (S5.out.below A6.out lr)
 have kr6:Hid (W6.heap[w.heap.size]?=some (.cells #[.int .i64 0,.string ⟨#[]⟩,.slice none 0 0] 29 (0,0))):=(A6.out.block _ (heap_lt kr5.out)).trans kr5.out
 have K6:=hide (K5.out.to (KS.of_below (X:=XN) A6.out lr S5.out.lt))
 obtain ⟨rb,hrb⟩:∃ rb,rb=w5.heap.size:=⟨_,rfl⟩
 rw [← hrb] at kb ⊢
 have hrbw:w.heap.size≤rb:=by have:=K5.out.below.size;omega
 clear hrb A6 S5 kr5 K5
 obtain ⟨hbl,-,-,b2,-⟩:=S6.out.box.facts
 obtain ⟨rl,r0,r1,r2,-⟩:=three_fact kb.out
 obtain ⟨hg2B,hg2l,cs2,hc2⟩:=own_cellsM S6.out.rmd g2 rfl
 have HC2:=hide hc2
 have R6:=hide (by have h:=S6.out.rmd;rw [hL1] at h;exact h)
 have q1:W6.cell? ⟨g2,n*6+1,none⟩=some (.int .i64 0):=sm_cell (by rw [hL1];exact R6.out) hLk.out 1 (by omega) rfl
 have q2:W6.cell? ⟨g2,n*6+1+1,none⟩=some (.string ⟨#[]⟩):=sm_cell (by rw [hL1];exact R6.out) hLk.out 2 (by omega) rfl
 have q3:W6.cell? ⟨g2,n*6+1+2,none⟩=some (.slice none 0 0):=sm_cell (by rw [hL1];exact R6.out) hLk.out 3 (by omega) rfl
 have qf:∀ j,W6.frozen? ⟨g2,j,none⟩=false:=fun j=>by simp [World.frozen?,hc2]
 have qf1:=qf (n*6+1)
 have qf2:=qf (n*6+1+1)
 have qf3:=qf (n*6+1+2)
 clear qf hc2
 have hIn:(n:Int)<(n:Int)+1:=by omega
 have hg2h:g2≠hb:=by
  intro e
  have h:=HC2.out
  rw [e] at h
  exact absurd (two_types h S6.out.box) (by decide)
 have hg2r:g2≠rb:=by
  intro e
  have h:=HC2.out
  rw [e] at h
  exact absurd (two_types h kb.out) (by decide)
 refine wp_region_held_drew (S:=fun V=>V.cell? ⟨hb,2,none⟩=some (.slice (some ⟨g2,0,none⟩) (n+1) cp2)∧V.cell? ⟨rb,0,none⟩=some (.int .i64 0)∧V.cell? ⟨rb,1,none⟩=some (.string tx)∧V.cell? ⟨rb,2,none⟩=some (.slice none 0 0)) (by as_aux_lemma=>kernel_rfl) ⟨b2,r0,r1,r2⟩ (fun hS=>?_)
 have HS:=hide hS
 clear hS
 iterate 3
  refine anyS_nx 0 (v:=?_) rfl rfl (by as_aux_lemma=>kernel_rfl) (fun _ _ _ h=>h) rfl ?_ HS.out ?_
  rotate_left
  ·(intro wz hSw;obtain ⟨s0,s1,s2,s3⟩:=hSw;go_simp)
   (try with_reducible rfl)
  (try simp only [Act.put,List.setIfInBounds_toArray,List.set_cons_zero,List.set_cons_succ])
 refine anyS_nx 4 (v:=?_) rfl rfl (by as_aux_lemma=>kernel_rfl) (fun _ _ _ h=>h) rfl ?_ HS.out ?_
 rotate_left
 ·(intro wz hSw;obtain ⟨s0,s1,s2,s3⟩:=hSw;go_simp)
  (try with_reducible rfl)
 (try simp only [Act.put,List.setIfInBounds_toArray,List.set_cons_zero,List.set_cons_succ])
 refine anyS_nx 3 (v:=?_) rfl rfl (by as_aux_lemma=>kernel_rfl) (fun _ _ _ h=>h) rfl ?_ HS.out ?_
 rotate_left
 ·(intro wz hSw;obtain ⟨s0,s1,s2,s3⟩:=hSw;go_simp)
  (try with_reducible rfl)
 (try simp only [Act.put,List.setIfInBounds_toArray,List.set_cons_zero,List.set_cons_succ])
 iterate 3
  refine anyS_nx 5 (v:=?_) rfl rfl (by as_aux_lemma=>kernel_rfl) (fun _ _ _ h=>h) rfl ?_ HS.out ?_
  rotate_left
  ·(intro wz hSw;obtain ⟨s0,s1,s2,s3⟩:=hSw;go_simp)
   (try with_reducible rfl)
  (try simp only [Act.put,List.setIfInBounds_toArray,List.set_cons_zero,List.set_cons_succ])
 have TL:=hide (S6.out.told hL1 hLk.out rfl 0 tx)
 have HS8:Hid ((((W6.setCell ⟨g2,n*6+1,none⟩ (.int .i64 0)).setCell ⟨g2,n*6+1+1,none⟩ (.string tx)).setCell ⟨g2,n*6+1+2,none⟩ (.slice none 0 0)).drew.cell? ⟨hb,2,none⟩=some (.slice (some ⟨g2,0,none⟩) (n+1) cp2)∧(((W6.setCell ⟨g2,n*6+1,none⟩ (.int .i64 0)).setCell ⟨g2,n*6+1+1,none⟩ (.string tx)).setCell ⟨g2,n*6+1+2,none⟩ (.slice none 0 0)).drew.cell? ⟨rb,0,none⟩=some (.int .i64 0)∧(((W6.setCell ⟨g2,n*6+1,none⟩ (.int .i64 0)).setCell ⟨g2,n*6+1+1,none⟩ (.string tx)).setCell ⟨g2,n*6+1+2,none⟩ (.slice none 0 0)).drew.cell? ⟨rb,1,none⟩=some (.string tx)∧(((W6.setCell ⟨g2,n*6+1,none⟩ (.int .i64 0)).setCell ⟨g2,n*6+1+1,none⟩ (.string tx)).setCell ⟨g2,n*6+1+2,none⟩ (.slice none 0 0)).drew.cell? ⟨rb,2,none⟩=some (.slice none 0 0)) :=
  ⟨(cell_far _ _ _ _ hg2h).trans ((cell_far _ _ _ _ hg2h).trans ((cell_far _ _ _ _ hg2h).trans b2)),(cell_far _ _ _ _ hg2r).trans ((cell_far _ _ _ _ hg2r).trans ((cell_far _ _ _ _ hg2r).trans r0)),(cell_far _ _ _ _ hg2r).trans ((cell_far _ _ _ _ hg2r).trans ((cell_far _ _ _ _ hg2r).trans r1)),(cell_far _ _ _ _ hg2r).trans ((cell_far _ _ _ _ hg2r).trans ((cell_far _ _ _ _ hg2r).trans r2))⟩
 refine anyS_one (i:=8) rfl (by as_aux_lemma=>kernel_rfl) (fun K hK=>?_)
 go_simp
 refine hK.out _ _ HS8.out ?_
 clear hK K HS q1 q2 q3 qf1 qf2 qf3 b2 r0 r1 r2 rl
 (try simp only [Act.put])
 refine wpAnyH_done (by as_aux_lemma=>kernel_rfl) ?_ _
 have D7:Hid (Below (((W6.setCell ⟨g2,n*6+1,none⟩ (.int .i64 0)).setCell ⟨g2,n*6+1+1,none⟩ (.string tx)).setCell ⟨g2,n*6+1+2,none⟩ (.slice none 0 0)).heap.size (((W6.setCell ⟨g2,n*6+1,none⟩ (.int .i64 0)).setCell ⟨g2,n*6+1+1,none⟩ (.string tx)).setCell ⟨g2,n*6+1+2,none⟩ (.slice none 0 0)) (((W6.setCell ⟨g2,n*6+1,none⟩ (.int .i64 0)).setCell ⟨g2,n*6+1+1,none⟩ (.string tx)).setCell ⟨g2,n*6+1+2,none⟩ (.slice none 0 0)).drew):=(Below.refl _ _).drew
 have S7:=hide (TL.out.1.below D7.out lr)
 have K7:=hide (K6.out.to (TL.out.2.1.to (KS.of_below (X:=XN) D7.out lr TL.out.1.lt)))
 have hk7:=TL.out.2.2.1
 have hl7:=TL.out.2.2.2
 have kr7:Hid ((((W6.setCell ⟨g2,n*6+1,none⟩ (.int .i64 0)).setCell ⟨g2,n*6+1+1,none⟩ (.string tx)).setCell ⟨g2,n*6+1+2,none⟩ (.slice none 0 0)).drew.heap[w.heap.size]?=some (.cells #[.int .i64 0,.string ⟨#[]⟩,.slice none 0 0] 29 (0,0))):=by
  have h0:=(TL.out.2.1.blk _ _ _ _ kr6.out (by decide) (by decide) (by decide) fun h=>h).trans kr6.out
  exact h0
 have kb7:Hid ((((W6.setCell ⟨g2,n*6+1,none⟩ (.int .i64 0)).setCell ⟨g2,n*6+1+1,none⟩ (.string tx)).setCell ⟨g2,n*6+1+2,none⟩ (.slice none 0 0)).drew.heap[rb]?=some (.cells #[.int .i64 0,.string tx,.slice none 0 0] 29 (0,0))):=by
  have h0:=(TL.out.2.1.blk _ _ _ _ kb.out (by decide) (by decide) (by decide) fun h=>h).trans kb.out
  exact h0
 have HK7:=hide hk7
 have HL7:=hide hl7
 clear TL HS8 hk7 hl7 kr6 kb K6 S6 R6 HC2 D7
 generalize (((W6.setCell ⟨g2,n*6+1,none⟩ (.int .i64 0)).setCell ⟨g2,n*6+1+1,none⟩ (.string tx)).setCell ⟨g2,n*6+1+2,none⟩ (.slice none 0 0)).drew=W7 at S7 K7 kr7 kb7 ⊢
 obtain ⟨hbl,-,-,b2,-⟩:=S7.out.box.facts
 obtain ⟨hg2B',hg2l',cs7,hc7⟩:=own_cellsM S7.out.rmd g2 rfl
 have q5:W7.cell? ⟨g2,n*6+5,none⟩=some (.bool false):=sm_cell (by have h:=S7.out.rmd;rw [HL7.out] at h ⊢;exact h) HK7.out 5 (by omega) rfl
 have qf5:W7.frozen? ⟨g2,n*6+5,none⟩=false:=by simp [World.frozen?,hc7]
 have TD:=hide (S7.out.upd' HL7.out HK7.out (j:=5) (by omega) (u:=.bool true) (m':=⟨nm,0,tx,[],.slice none 0 0,true⟩) rfl (fun _=>⟨rfl,.inl ⟨rfl,rfl⟩⟩))
 have kr8:Hid ((W7.setCell ⟨g2,n*6+5,none⟩ (.bool true)).heap[w.heap.size]?=some (.cells #[.int .i64 0,.string ⟨#[]⟩,.slice none 0 0] 29 (0,0))):=(TD.out.2.1.blk _ _ _ _ kr7.out (by decide) (by decide) (by decide) fun h=>h).trans kr7.out
 have kb8:Hid ((W7.setCell ⟨g2,n*6+5,none⟩ (.bool true)).heap[rb]?=some (.cells #[.int .i64 0,.string tx,.slice none 0 0] 29 (0,0))):=(TD.out.2.1.blk _ _ _ _ kb7.out (by decide) (by decide) (by decide) fun h=>h).trans kb7.out
 have S8:=hide TD.out.1
 have K8:=hide (K7.out.to TD.out.2.1)
 clear hc7
 go_upto_region 15 with fail
 clear b2 q5 qf5 TD S7 K7 kr7 kb7
 generalize W7.setCell ⟨g2,n*6+5,none⟩ (.bool true)=W8 at S8 K8 kr8 kb8 ⊢
 obtain ⟨ao,co,rfl⟩:=sh_slice S8.out.ror
 obtain ⟨q,hq⟩:∃ q,q=made.length:=⟨_,rfl⟩
 have HQ:=hide hq
 rw [← hq] at hmd
 clear hq
 obtain ⟨hbl,-,-,-,b3,-⟩:=S8.out.box.facts
 rw [← HQ.out] at b3
 have A9:=hide ((Below.refl W8.heap.size W8).alloc lr (.cells #[.string nm] 9))
 have S9:=hide (S8.out.below A9.out lr)
 have RO:=hide (by have h:=S9.out.ror;rw [← HQ.out] at h;exact h)
 have hbs9:w0.heap.size≤(W8.alloc (.cells #[.string nm] 9)).heap.size:=S9.out.lt
 have HG:Hid (∀ w2:World,(W8.alloc (.cells #[.string nm] 9)).grownBy w2 (Value.slice ao q co).ownBlock→w2.heap[hb]?=(W8.alloc (.cells #[.string nm] 9)).heap[hb]?∧w2.heap[w.heap.size]?=(W8.alloc (.cells #[.string nm] 9)).heap[w.heap.size]?∧w2.heap[rb]?=(W8.alloc (.cells #[.string nm] 9)).heap[rb]?):=fun w2 hg=>by
  have hne:∀ (i:Nat) (cs:Array Value) (t:TypeId) (fz:Nat × Nat),(W8.alloc (.cells #[.string nm] 9)).heap[i]?=some (Obj.cells cs t fz)→t≠9→w2.heap[i]?=(W8.alloc (.cells #[.string nm] 9)).heap[i]?:=fun i cs t fz hi ht=>hg.block i (heap_lt hi) fun e=>by
   obtain ⟨_,_,cs2,hc⟩:=own_cellsM RO.out i e.symm
   exact ht (two_types hi hc)
  exact ⟨hne _ _ _ _ S9.out.box (by decide),hne _ _ _ _ ((A9.out.block _ (heap_lt kr8.out)).trans kr8.out) (by decide),hne _ _ _ _ ((A9.out.block _ (heap_lt kb8.out)).trans kb8.out) (by decide)⟩
 have KRR:Hid ((W8.alloc (.cells #[.string nm] 9)).heap[w.heap.size]?=some (.cells #[.int .i64 0,.string ⟨#[]⟩,.slice none 0 0] 29 (0,0))):=(A9.out.block _ (heap_lt kr8.out)).trans kr8.out
 have KBB:Hid ((W8.alloc (.cells #[.string nm] 9)).heap[rb]?=some (.cells #[.int .i64 0,.string tx,.slice none 0 0] 29 (0,0))):=(A9.out.block _ (heap_lt kb8.out)).trans kb8.out
 have hbw:¬ hb=w.heap.size:=fun e=>by have h:=S8.out.box;unfold ShBox at h;rw [e] at h;exact absurd (two_types h kr8.out) (by decide)
 have hbw':¬ w.heap.size=hb:=fun e=>hbw e.symm
 have hbr:¬ hb=rb:=fun e=>by have h:=S8.out.box;unfold ShBox at h;rw [e] at h;exact absurd (two_types h kb8.out) (by decide)
 have hbr':¬ rb=hb:=fun e=>hbr e.symm
 go_wp2_with (first
  | (at_builtin;refine wpList_append_at _ rfl (.tmp 100) (.tmp 102) 27 rfl w0.heap.size 9 i1 (.string ⟨#[]⟩) 1 16 Tryz.underlying27 hi1 hy0 hy1 hy2 rfl (by decide) (.slice ao q co) q (strV (made.map (·.name))) (by simp [Act.eval]) RO.out ⟨W8.heap.size,0,none⟩ 1 1 [.string nm] (by simp [Act.eval]) rfl (one_new2 W8 _ _) (by simp [Value.oneCell']) (by unfold maxLen;omega) (by omega) hbs9 ?_;intro v9 w9 hown hgrow hat;have O9:=hide hown;have G9:=hide hgrow;have AT9:=hide hat;have hb9:=hide (HG.out w9 hgrow);obtain ⟨g9,c9,cu9,rfl,hq9⟩:=hown.2.resolve_left (fun h=>by omega);clear hq9 hown hgrow hat;obtain ⟨hbl9,-,-,-,f3,-,-,-,-,-,ff⟩:=(ShBox.blk S9.out.box hb9.out.1).facts;have ff3:=ff 3;obtain ⟨rl,r0,r1,r2,rf⟩:=three_fact (hb9.out.2.1.trans KRR.out);have rf0:=rf 0;have rf1:=rf 1;have rf2:=rf 2;obtain ⟨pl,p0,p1,p2,pf⟩:=three_fact (hb9.out.2.2.trans KBB.out);clear ff rf pf)
  | fail)
 have SXX:=hide (S9.out.ord (x:=⟨nm,1,0,tx,0,[]⟩) (w':=w9) (v:=.slice (some ⟨g9,0,none⟩) (q+1) c9) (by rw [← HQ.out];exact G9.out) (by rw [← HQ.out];exact O9.out) (by rw [← HQ.out];exact AT9.out))
 refine bodyPost_ret (v:=.agg #[.int .i64 0,.string tx,.slice none 0 0]) (by simp [results,Tryz.results90,go_sem,r0,r1,r2]) rfl ?_
 have krF:=(Below.heap_setCell w9 ⟨hb,3,none⟩ (.slice (some ⟨g9,0,none⟩) (q+1) c9) w.heap.size hbw').trans (hb9.out.2.1.trans KRR.out)
 refine ⟨.slice (some ⟨g2,0,none⟩) (n+1) cp2,.slice (some ⟨g9,0,none⟩) (q+1) c9,rfl,?_,?_⟩
 ·rw [← HN.out]
  have x0:=SXX.out.1
  rw [List.set_set] at x0
  replace x0:=x0.setOff krF ⟨by decide,by decide,by decide,by decide⟩ hB0 0 (.int .i64 0)
  have y0:=heap_setCell_at krF (j:=0) (.int .i64 0)
  have x1:=x0.setOff y0 ⟨by decide,by decide,by decide,by decide⟩ hB0 1 (.string tx)
  exact x1.setOff (heap_setCell_at y0 (j:=1) (.string tx)) ⟨by decide,by decide,by decide,by decide⟩ hB0 2 (.slice none 0 0)
 ·have k0:=(K8.out.to (KS.of_below (X:=XN) A9.out lr S8.out.lt)).to SXX.out.2
  exact ((k0.fresh lr hB0 0 _).fresh lr hB0 1 _).fresh lr hB0 2 _
end
section
variable {w0:World}{S:Spc}{a0 a1:Option Addr}{c0 c1 hb:Nat}{md or st:Value}{making:List ByteArray}{made:List Ent}{L:List SM}
theorem make_deep (C:SCtx w0 S a0 a1)(w:World)(nm:ByteArray)(h:SI w0 hb (.slice a0 S.n0 c0) (.slice a1 S.n1 c1) w making made L md or st)(hLn:L.length≤100000)(hm60:making.length=60)(h1:fI L nm=none)(hi:atL making nm=none)(tg:Nat)(h3:atI (nm1 S.f1) S.n1 nm=some tg) :
  Calls Tryz.prog 90 #[.pointer (some ⟨hb,0,none⟩),.string nm] w fun e w'=>MakePost w0 hb (.slice a0 S.n0 c0) (.slice a1 S.n1 c1) making L w e w' (.inr (.inr nm)):=by
 obtain ⟨im,him,hm0,hm1,hm2⟩:=infoS2 infoMade
 obtain ⟨i1,hi1,hy0,hy1,hy2⟩:=infoS2 infoStrS
 have A0:=hide ((Below.refl w.heap.size w).alloc lr (.cells #[.int .i64 0,.string ⟨#[]⟩,.slice none 0 0] 29))
 have kr:Hid ((w.alloc (.cells #[.int .i64 0,.string ⟨#[]⟩,.slice none 0 0] 29)).heap[w.heap.size]?=some (.cells #[.int .i64 0,.string ⟨#[]⟩,.slice none 0 0] 29 (0,0))):=heap_alloc_new _ _
 have S0:=hide (h.below A0.out lr)
 have hB0:w0.heap.size≤w.heap.size:=h.lt
 have e1:idxI (fI L nm)=-1:=by rw [h1];rfl
 obtain ⟨am,cm,rfl⟩:=sh_slice h.rmd
 obtain ⟨n,hn⟩:∃ n,n=L.length:=⟨_,rfl⟩
 have HN:=hide hn
 have CC:=hide C
 have hsm:=C.ok.small
 have hn1:n≤100000:=by omega
 clear h h1 hn C
 obtain ⟨es0,es⟩:∃ z,idxI (atI (nm0 S.f0) S.n0 nm)=z:=⟨_,rfl⟩
 have et:idxI (atI (nm1 S.f1) S.n1 nm)=(tg:Int):=by rw [h3];rfl
 have hbef:∀ (j:Nat) (y:ByteArray),making[j]?=some y→(y.toList == nm.toList)=false:=fun j y hy=>by
  unfold atL at hi
  rw [List.findIdx?_eq_none_iff] at hi
  exact hi y (List.mem_of_getElem? hy)
 have HBF:=hide hbef
 obtain ⟨ms,hms⟩:∃ ms,ms=making.length:=⟨_,rfl⟩
 have HMS:=hide hms
 have hT0:(0:Int)≤(tg:Int):=by omega
 have hT1:=(atI_some h3).1
 rw [← hms] at hm60
 obtain ⟨ast,cst,rfl⟩:=sh_slice S0.out.rst
 clear h3 hi hbef hms
 have hms60:ms=60:=by omega
 clear hm60
 go_enter Tryz.func90,Tryz.ntmps90
 go_wp2_with fail
 generalize w.alloc (.cells #[.int .i64 0,.string ⟨#[]⟩,.slice none 0 0] 29)=W0 at A0 kr S0 ⊢
 refine (find_any W0 nm S0.out hLn).mono ?_
 rintro e w1 ⟨rfl,hw1⟩
 rw [hw1,e1]
 clear hw1 e1
 obtain ⟨hbl,-,-,b2,-⟩:=S0.out.box.facts
 rw [← HN.out] at b2
 have A1:=hide ((Below.refl W0.heap.size W0).alloc lr (.cells #[.string nm,.int .i64 0,.string ⟨#[]⟩,.slice none 0 0,.slice none 0 0,.bool false] 146))
 have SA:=hide (S0.out.below A1.out lr)
 have RM:=hide (by have h:=SA.out.rmd;rw [← HN.out] at h;exact h)
 have hz1:(W0.alloc (.cells #[.string nm,.int .i64 0,.string ⟨#[]⟩,.slice none 0 0,.slice none 0 0,.bool false] 146)).heap.size=W0.heap.size+1:=by simp
 have HG:Hid (∀ w2:World,(W0.alloc (.cells #[.string nm,.int .i64 0,.string ⟨#[]⟩,.slice none 0 0,.slice none 0 0,.bool false] 146)).grownBy w2 (Value.slice am n cm).ownBlock→w2.heap[hb]?=(W0.alloc (.cells #[.string nm,.int .i64 0,.string ⟨#[]⟩,.slice none 0 0,.slice none 0 0,.bool false] 146)).heap[hb]?):=fun w2 hg=>hg.block hb (by omega) fun e=>by
  obtain ⟨_,_,cs,hc⟩:=own_cellsM RM.out hb e.symm
  exact absurd (two_types SA.out.box hc) (by decide)
 have hbs1:w0.heap.size≤(W0.alloc (.cells #[.string nm,.int .i64 0,.string ⟨#[]⟩,.slice none 0 0,.slice none 0 0,.bool false] 146)).heap.size:=SA.out.lt
 have hz1':W0.heap.size<(W0.alloc (.cells #[.string nm,.int .i64 0,.string ⟨#[]⟩,.slice none 0 0,.slice none 0 0,.bool false] 146)).heap.size:=by omega
 clear hz1
 go_upto_region 7 with (first
  | (at_builtin;refine wpList_append_at _ rfl (.tmp 46) (.tmp 49) 66 rfl w0.heap.size 146 im (.agg #[.string ⟨#[]⟩,.int .i64 0,.string ⟨#[]⟩,.slice none 0 0,.slice none 0 0,.bool false]) 6 96 Tryz.underlying66 him hm0 hm1 hm2 rfl (by decide) (.slice am n cm) n (L.flatMap smV) (by simp [Act.eval]) RM.out ⟨W0.heap.size,0,none⟩ 1 1 [.string nm,.int .i64 0,.string ⟨#[]⟩,.slice none 0 0,.slice none 0 0,.bool false] (by simp [Act.eval]) rfl (six_new2 W0 _ _ _ _ _ _ _) (by simp [Value.oneCell']) (by unfold maxLen;omega) (by omega) hbs1 ?_;intro v2 w2 hown hgrow hat;have O2:=hide hown;have G2:=hide hgrow;have hb2:=hide (HG.out w2 hgrow);obtain ⟨g2,cp2,cu2,rfl,hq2⟩:=hown.2.resolve_left (fun h=>by omega);clear hq2 hown hgrow hat;obtain ⟨hbl2,-,-,f2,-,-,-,-,-,-,ff⟩:=(ShBox.blk SA.out.box hb2.out).facts;have ff2:=ff 2;clear ff)
  | fail)
 have SX:=hide (SA.out.addL (m:=newM nm) (w':=w2) (v:=.slice (some ⟨g2,0,none⟩) (n+1) cp2) (by rw [← HN.out];exact G2.out) (by rw [← HN.out];exact O2.out) rfl)
 have S3:=hide SX.out.1
 have K3:Hid (KS w0.heap.size XN w (w2.setCell ⟨hb,2,none⟩ (.slice (some ⟨g2,0,none⟩) (n+1) cp2))):=((KS.of_below (X:=XN) A0.out lr hB0).to (KS.of_below A1.out lr S0.out.lt)).to SX.out.2
 have kr3:Hid ((w2.setCell ⟨hb,2,none⟩ (.slice (some ⟨g2,0,none⟩) (n+1) cp2)).heap[w.heap.size]?=some (.cells #[.int .i64 0,.string ⟨#[]⟩,.slice none 0 0] 29 (0,0))):=by
  have h0:=(A1.out.block _ (heap_lt kr.out)).trans kr.out
  exact (SX.out.2.blk _ _ _ _ h0 (by decide) (by decide) (by decide) fun h=>h).trans h0
 have hL1:(L++[newM nm]).length=n+1:=by rw [List.length_append,List.length_singleton,← HN.out]
 have hLk:Hid ((L++[newM nm])[n]?=some (newM nm)):=by rw [HN.out];show _=_;rw [List.getElem?_append_right lr,Nat.sub_self];rfl
 clear SX f2 ff2 hbl2 b2 hbl RM SA A1 HG O2 G2 hb2
 generalize w2.setCell ⟨hb,2,none⟩ (.slice (some ⟨g2,0,none⟩) (n+1) cp2)=W3 at S3 K3 kr3 ⊢
 obtain ⟨hbl,b0,b1,-⟩:=S3.out.box.facts
 go_wp2_with fail
 refine (l2Source_at a0 S.n0 c0 a1 S.n1 c1 S.f0 nm W3 (by omega) (CC.out.src.below S3.out.bel lr)).mono ?_
 rintro e w4 ⟨he,hB⟩
 rw [es] at he
 subst he
 have S4:=hide (S3.out.below hB lr)
 have kr4:Hid (w4.heap[w.heap.size]?=_):=(hB.block _ (heap_lt kr3.out)).trans kr3.out
 have K4:=hide (K3.out.to (KS.of_below (X:=XN) hB lr S3.out.lt))
 clear hB b0 b1 hbl S3 K3 kr3
 obtain ⟨hbl,b0,b1,-⟩:=S4.out.box.facts
 go_wp2_with fail
 refine (l2Target_at a0 S.n0 c0 a1 S.n1 c1 S.f1 nm w4 (by omega) (CC.out.tgt.below S4.out.bel lr)).mono ?_
 rintro e w5 ⟨he,hB⟩
 rw [et] at he
 subst he
 have S5:=hide (S4.out.below hB lr)
 have kr5:Hid (w5.heap[w.heap.size]?=some (.cells #[.int .i64 0,.string ⟨#[]⟩,.slice none 0 0] 29 (0,0))):=(hB.block _ (heap_lt kr4.out)).trans kr4.out
 have K5:=hide (K4.out.to (KS.of_below (X:=XN) hB lr S4.out.lt))
 clear hB b0 b1 hbl S4 K4 kr4 A0 S0 kr
 obtain ⟨hbl,-,-,-,-,b4,b5,b6,b7,b8,bf⟩:=S5.out.box.facts
 have bf4:=bf 4
 have bf5:=bf 5
 have bf6:=bf 6
 have bf7:=bf 7
 have bf8:=bf 8
 rw [← HMS.out] at b4
 clear bf
 go_wp2_with fail
 go_loop [9] (fun i=>∃ j:Nat,j≤ms∧i=.int .i64 j) (fun i=>ms - (intOf i).toNat)
 case atStart=>exact ⟨0,by omega,rfl⟩
 case round =>
 obtain ⟨j,hj,rfl⟩:=hrel
 by_cases hlt:j<ms
 ·obtain ⟨y,hy⟩:∃ y,making[j]?=some y:=⟨_,List.getElem?_eq_getElem (by have:=HMS.out;omega)⟩
  obtain ⟨gs,cs,cus,ev,-⟩:=S5.out.rst.2.resolve_left (fun h=>by have:=HMS.out;omega)
  rw [← HMS.out] at ev
  cases ev
  have dj:w5.cell? ⟨gs,j,none⟩=some (.string y):=str_cell S5.out.rst hy
  have hjm:(j:Int)<(ms:Int):=by omega
  have HNE:=hide (HBF.out j y hy)
  clear hy
  have hne:=HNE.out
  go_wp2
  exact ⟨⟨j+1,by omega,by go_num⟩,by simp [intOf];omega⟩
 obtain rfl:j=ms:=by omega
 ·subst hms60
  have hbw:¬ hb=w.heap.size:=fun e=>by have h:=S5.out.box;unfold ShBox at h;rw [e] at h;exact absurd (two_types h kr5.out) (by decide)
  have hbw':¬ w.heap.size=hb:=fun e=>hbw e.symm
  obtain ⟨rl,r0,r1,r2,rf⟩:=three_fact kr5.out
  have rf0:=rf 0
  have rf1:=rf 1
  have rf2:=rf 2
  clear rf
  go_wp2_with fail
  refine bodyPost_ret (v:=.agg #[.int .i64 7,.string nm,.slice none 0 0]) (by simp [results,Tryz.results90,go_sem,r0,r1,r2]) rfl ?_
  have bx8:=heap_setCell_at S5.out.box (j:=8) (.bool true)
  have bx5:=heap_setCell_at bx8 (j:=5) (.int .i64 7)
  have bx6:=heap_setCell_at bx5 (j:=6) (.string nm)
  have bx7:=heap_setCell_at bx6 (j:=7) (.slice none 0 0)
  have hhB:w0.heap.size≤hb:=S5.out.hbB
  have k8:=(((K5.out.to (KS.setCell (X:=XN) _ hhB (.inr fun cs t fz hc=>.inr (.inr (two_types hc S5.out.box))) (.bool true) (j:=8))).to (KS.setCell (X:=XN) _ hhB (.inr fun cs t fz hc=>.inr (.inr (two_types hc bx8))) (.int .i64 7) (j:=5))).to (KS.setCell (X:=XN) _ hhB (.inr fun cs t fz hc=>.inr (.inr (two_types hc bx5))) (.string nm) (j:=6))).to (KS.setCell (X:=XN) _ hhB (.inr fun cs t fz hc=>.inr (.inr (two_types hc bx6))) (.slice none 0 0) (j:=7))
  refine ⟨rfl,⟨_,_,_,_,_,(Below.heap_setCell _ _ _ _ hbw).trans ((Below.heap_setCell _ _ _ _ hbw).trans ((Below.heap_setCell _ _ _ _ hbw).trans bx7)),⟨rfl,.inl ⟨rfl,rfl⟩⟩⟩,?_⟩
  exact ((k8.fresh lr hB0 0 _).fresh lr hB0 1 _).fresh lr hB0 2 _
end
end Go.Proofs.YtfnbojfnelfnkaaGreatDoor.Vp
