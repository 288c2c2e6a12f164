import Derived.Test.YtfnbojfnelfnkaaGreatDoorYL
import Derived.Test.YtfnbojfnelfnkaaGreatDoorYM
import Derived.Test.YtfnbojfnelfnkaaGreatDoorZI
import Derived.Test.YtfnbojfnelfnkaaGreatDoorZH
import Derived.Test.YtfnbojfnelfnkaaGreatDoorZF
set_option maxRecDepth 100000
set_option maxHeartbeats 4000000
namespace Go.Proofs.YtfnbojfnelfnkaaGreatDoor.Vp
open Go.RowKit Go.Proofs.YtfnbojfnelfnkaaGreatDoor.Ca
def CleanAt (w0:World)(hb:Nat)(s0 s1:Value)(w':World):Out Ent→Prop
 | .inl (made',x)=>∃ L md or st,ShBox w' hb s0 s1 md or st (resE x).code (resE x).text (.slice none 0 0) false∧w'.ownsRow w0.heap.size 146 6 md L.length (L.flatMap smV)∧w'.ownsRow w0.heap.size 9 1 or made'.length (strV (made'.map (·.name)))∧(∀ m∈L,m.done=true→w'.ownsRow w0.heap.size 149 3 m.sv m.seen.length (seenV m.seen))∧SRel L [] made'
 | .inr (.inl c)=>∃ a k,DeadAt w0 hb w' (stopC c) (.slice a c.length k)
 | .inr (.inr d)=>DeadAt w0 hb w' (stopD d) (.slice none 0 0)
section
variable {S:Spc}{a0 a1:Option Addr}{c0 c1:Nat}
theorem l2Clean_any (w:World)(C:SCtx w S a0 a1)(nm:ByteArray)(hn:nameOk nm=true) :
  Calls Tryz.prog 36 #[.agg #[.slice a0 S.n0 c0,.slice a1 S.n1 c1],.string nm] w fun e w'=>∃ hb,e=.returned (.pointer (some ⟨hb,0,none⟩))∧CleanAt w hb (.slice a0 S.n0 c0) (.slice a1 S.n1 c1) w' (liesP S 60 [] [] nm)∧Below w.heap.size w w':=by
 obtain ⟨R,hR⟩:∃ R,R=liesP S 60 [] [] nm:=⟨_,rfl⟩
 have HM:Hid (∀ (W:World) (hb:Nat),SI w hb (.slice a0 S.n0 c0) (.slice a1 S.n1 c1) W [] [] [] (.slice none 0 0) (.slice none 0 0) (.slice none 0 0)→Calls Tryz.prog 90 #[.pointer (some ⟨hb,0,none⟩),.string nm] W fun e w'=>MakePost w hb (.slice a0 S.n0 c0) (.slice a1 S.n1 c1) [] [] W e w' R):=by
  intro W hb hS
  rw [hR]
  refine make_all C 60 [] [] [] _ _ _ W nm rfl hS ⟨List.Pairwise.nil,rfl,fun x hx=>absurd hx List.not_mem_nil,fun x hx=>absurd hx List.not_mem_nil,fun x hx=>absurd hx List.not_mem_nil⟩ (pg_nil S []) ?_ (fun x hx=>absurd hx List.not_mem_nil) hn
  have h1:=leftN_le S
  have h2:=C.ok.small
  unfold roomS
  simp only [List.length_nil]
  omega
 rw [← hR]
 have zA:(w.alloc (.cells #[.slice a0 S.n0 c0,.slice a1 S.n1 c1] 34)).heap.size=w.heap.size+1:=by simp
 have A0:=hide (((Below.refl w.heap.size w).alloc lr (.cells #[.slice a0 S.n0 c0,.slice a1 S.n1 c1] 34)).alloc (by simp) (.cells #[.slice a0 S.n0 c0,.slice a1 S.n1 c1,.slice none 0 0,.slice none 0 0,.slice none 0 0,.int .i64 0,.string ⟨#[]⟩,.slice none 0 0,.bool false] 68))
 have S0:Hid (SI w (w.heap.size+1) (.slice a0 S.n0 c0) (.slice a1 S.n1 c1) ((w.alloc (.cells #[.slice a0 S.n0 c0,.slice a1 S.n1 c1] 34)).alloc (.cells #[.slice a0 S.n0 c0,.slice a1 S.n1 c1,.slice none 0 0,.slice none 0 0,.slice none 0 0,.int .i64 0,.string ⟨#[]⟩,.slice none 0 0,.bool false] 68)) [] [] [] (.slice none 0 0) (.slice none 0 0) (.slice none 0 0)):=by
  refine ⟨A0.out,Nat.le_succ _,?_,⟨rfl,.inl ⟨rfl,rfl⟩⟩,⟨rfl,.inl ⟨rfl,rfl⟩⟩,⟨rfl,.inl ⟨rfl,rfl⟩⟩,(fun k h=>by cases h),fun m hm=>absurd hm List.not_mem_nil⟩
  have h2:=heap_alloc_new (w.alloc (.cells #[.slice a0 S.n0 c0,.slice a1 S.n1 c1] 34)) (.cells #[.slice a0 S.n0 c0,.slice a1 S.n1 c1,.slice none 0 0,.slice none 0 0,.slice none 0 0,.int .i64 0,.string ⟨#[]⟩,.slice none 0 0,.bool false] 68)
  rw [zA] at h2
  exact h2
 clear hn C hR zA
 go_enter Tryz.func36,Tryz.ntmps36
 go_wp2_with fail
 generalize (w.alloc (.cells #[.slice a0 S.n0 c0,.slice a1 S.n1 c1] 34)).alloc (.cells #[.slice a0 S.n0 c0,.slice a1 S.n1 c1,.slice none 0 0,.slice none 0 0,.slice none 0 0,.int .i64 0,.string ⟨#[]⟩,.slice none 0 0,.bool false] 68)=W0 at A0 S0 ⊢
 obtain ⟨hb,hhb⟩:∃ hb,hb=w.heap.size+1:=⟨_,rfl⟩
 rw [← hhb] at S0 ⊢
 have hhw:w.heap.size≤hb:=by omega
 clear hhb
 refine (HM.out W0 hb S0.out).mono ?_
 clear HM
 rintro e w1 hpost
 rcases R with ⟨made',x⟩ | c | d
 ·obtain ⟨L,md,or,st,rfl,hS,hrel,-,hK8⟩:=hpost
  have B1:=hide (A0.out.trans hK8.below)
  have REL:=hide hrel
  obtain ⟨rc,hrc⟩:∃ rc,rc=(resE x).code:=⟨_,rfl⟩
  obtain ⟨rt,hrt⟩:∃ rt,rt=(resE x).text:=⟨_,rfl⟩
  have HRC:=hide hrc
  have HRT:=hide hrt
  rw [← hrc,← hrt]
  have A2:=hide ((Below.refl w1.heap.size w1).alloc lr (.cells #[.int .i64 rc,.string rt,.slice none 0 0] 29))
  have S2:=hide (hS.below A2.out lr)
  clear hK8 hrel hS hrc hrt
  obtain ⟨hbl,-,-,-,-,-,b5,b6,b7,b8,bf⟩:=S2.out.box.facts
  have bf5:=bf 5
  have bf6:=bf 6
  have bf7:=bf 7
  clear bf
  go_wp2_with fail
  go_ret
  have hrow:∀ {size n:Nat} {t':TypeId} {u:Value} {ys:List Value},(w1.alloc (.cells #[.int .i64 rc,.string rt,.slice none 0 0] 29)).ownsRow w.heap.size t' size u n ys→68≠t'→((((w1.alloc (.cells #[.int .i64 rc,.string rt,.slice none 0 0] 29)).setCell ⟨hb,5,none⟩ (.int .i64 rc)).setCell ⟨hb,6,none⟩ (.string rt)).setCell ⟨hb,7,none⟩ (.slice none 0 0)).ownsRow w.heap.size t' size u n ys:=fun hr ht=>by
   rename_i size n t' u ys
   have hne:u.ownBlock≠some hb:=fun e=>by
    obtain ⟨_,_,cs2,hc2⟩:=own_cellsM hr hb e
    exact absurd (two_types S2.out.box hc2) ht
   exact own_other (own_other (own_other hr hne _ _) hne _ _) hne _ _
  refine ⟨hb,rfl,⟨L,md,or,st,?_,hrow S2.out.rmd (by decide),hrow S2.out.ror (by decide),fun m hm hd=>hrow (S2.out.seen m hm hd) (by decide),REL.out⟩,?_⟩
  ·rw [← HRC.out,← HRT.out]
   exact heap_setCell_at (heap_setCell_at (heap_setCell_at S2.out.box (j:=5) _) (j:=6) _) (j:=7) _
  ·exact (((B1.out.trans (A2.out.mono B1.out.size)).setCell (p:=⟨hb,5,none⟩) hhw _).setCell (p:=⟨hb,6,none⟩) hhw _).setCell (p:=⟨hb,7,none⟩) hhw _
 ·obtain ⟨a,k,rfl,⟨s0,s1,md8,or8,st8,hbox,hrow8⟩,hK8⟩:=hpost
  have HBX:=hide hbox
  have HRW:=hide hrow8
  have B1:=hide (A0.out.trans hK8.below)
  clear hbox hrow8 hK8
  unfold resV stopC
  dsimp only
  have A2:=hide ((Below.refl w1.heap.size w1).alloc lr (.cells #[.int .i64 6,.string ⟨#[]⟩,.slice a c.length k] 29))
  have BX2:=hide (ShBox.blk HBX.out (A2.out.block _ (heap_lt HBX.out)))
  obtain ⟨hbl,-,-,-,-,-,-,-,-,b8,-⟩:=BX2.out.facts
  go_wp2_with fail
  go_ret
  exact ⟨hb,rfl,⟨a,k,_,_,_,_,_,BX2.out,own_below HRW.out A2.out lr⟩,B1.out.trans (A2.out.mono B1.out.size)⟩
 ·obtain ⟨rfl,⟨s0,s1,md8,or8,st8,hbox,hrow8⟩,hK8⟩:=hpost
  have HBX:=hide hbox
  have HRW:=hide hrow8
  have B1:=hide (A0.out.trans hK8.below)
  clear hbox hrow8 hK8
  unfold resV stopD
  dsimp only
  have A2:=hide ((Below.refl w1.heap.size w1).alloc lr (.cells #[.int .i64 7,.string d,.slice none 0 0] 29))
  have BX2:=hide (ShBox.blk HBX.out (A2.out.block _ (heap_lt HBX.out)))
  obtain ⟨hbl,-,-,-,-,-,-,-,-,b8,-⟩:=BX2.out.facts
  go_wp2_with fail
  go_ret
  exact ⟨hb,rfl,⟨_,_,_,_,_,BX2.out,own_below HRW.out A2.out lr⟩,B1.out.trans (A2.out.mono B1.out.size)⟩
end
theorem copy_nil (w:World)(rc:Int)(rt:ByteArray) :
  Calls Tryz.prog 35 #[.agg #[.int .i64 rc,.string rt,.slice none 0 0]] w fun e w'=>∃ rv,e=.returned rv∧ResAt w w' ⟨rc,rt,[]⟩ rv∧Below w.heap.size w w':=by
 have A0:=hide (((Below.refl w.heap.size w).alloc lr (.cells #[.int .i64 rc,.string rt,.slice none 0 0] 29)).alloc (by simp) (.cells #[.int .i64 0,.string ⟨#[]⟩,.slice none 0 0] 29))
 have kR:Hid (((w.alloc (.cells #[.int .i64 rc,.string rt,.slice none 0 0] 29)).alloc (.cells #[.int .i64 0,.string ⟨#[]⟩,.slice none 0 0] 29)).heap[w.heap.size+1]?=some (.cells #[.int .i64 0,.string ⟨#[]⟩,.slice none 0 0] 29 (0,0))):=by
  have h2:=heap_alloc_new (w.alloc (.cells #[.int .i64 rc,.string rt,.slice none 0 0] 29)) (.cells #[.int .i64 0,.string ⟨#[]⟩,.slice none 0 0] 29)
  rw [show (w.alloc (.cells #[.int .i64 rc,.string rt,.slice none 0 0] 29)).heap.size=w.heap.size+1 by simp] at h2
  exact h2
 have kP:Hid (((w.alloc (.cells #[.int .i64 rc,.string rt,.slice none 0 0] 29)).alloc (.cells #[.int .i64 0,.string ⟨#[]⟩,.slice none 0 0] 29)).heap[w.heap.size]?=some (.cells #[.int .i64 rc,.string rt,.slice none 0 0] 29 (0,0))):=by
  have h2:=heap_alloc_new w (.cells #[.int .i64 rc,.string rt,.slice none 0 0] 29)
  exact (((Below.refl (w.heap.size+1) _).alloc (by simp) _).block w.heap.size (by omega)).trans h2
 go_enter Tryz.func35,Tryz.ntmps35
 go_upto_region 1 with fail
 generalize (w.alloc (.cells #[.int .i64 rc,.string rt,.slice none 0 0] 29)).alloc (.cells #[.int .i64 0,.string ⟨#[]⟩,.slice none 0 0] 29)=W0 at A0 kR kP ⊢
 obtain ⟨-,p0,p1,p2,-⟩:=three_fact kP.out
 have hz0:w.heap.size+1<W0.heap.size:=heap_lt kR.out
 have SQ:Hid (∀ V:World,(∀ k,k<W0.heap.size→V.heap[k]?=W0.heap[k]?)→V.cell? ⟨w.heap.size,0,none⟩=some (.int .i64 rc)∧V.cell? ⟨w.heap.size,1,none⟩=some (.string rt)∧V.cell? ⟨w.heap.size,2,none⟩=some (.slice none 0 0)):=fun V hV=>by
  have e:=World.cell?_of_block (a:=⟨w.heap.size,0,none⟩) (hV w.heap.size (by omega))
  have e1:=World.cell?_of_block (a:=⟨w.heap.size,1,none⟩) (hV w.heap.size (by omega))
  have e2:=World.cell?_of_block (a:=⟨w.heap.size,2,none⟩) (hV w.heap.size (by omega))
  exact ⟨e.trans p0,e1.trans p1,e2.trans p2⟩
 have HS:=hide (SQ.out W0.drew (fun k hk=>rfl))
 refine wp_region_N (fun V=>V.cell? ⟨w.heap.size,0,none⟩=some (.int .i64 rc)∧V.cell? ⟨w.heap.size,1,none⟩=some (.string rt)∧V.cell? ⟨w.heap.size,2,none⟩=some (.slice none 0 0)) 9 (by as_aux_lemma=>kernel_rfl) ?_
 clear p0 p1 p2
 iterate 4
  refine anyN_nx 0 (v:=?_) rfl rfl (by as_aux_lemma=>kernel_rfl) (fun _ _ _ h=>h) rfl ?_ HS.out ?_
  rotate_left
  ·(intro wz hSw;obtain ⟨s0,s1,s2⟩:=hSw;go_simp)
   (try with_reducible rfl)
  (try simp only [Act.put,List.setIfInBounds_toArray,List.set_cons_zero,List.set_cons_succ])
 iterate 2
  refine anyN_nx 5 (v:=?_) rfl rfl (by as_aux_lemma=>kernel_rfl) (fun _ _ _ h=>h) rfl ?_ HS.out ?_
  rotate_left
  ·(intro wz hSw;obtain ⟨s0,s1,s2⟩:=hSw;go_simp)
   (try with_reducible rfl)
  (try simp only [Act.put,List.setIfInBounds_toArray,List.set_cons_zero,List.set_cons_succ])
 refine anyN_one (i:=4) rfl (by as_aux_lemma=>kernel_rfl) (fun K hK=>?_)
 go_simp
 have AB:=hide (((Below.refl W0.heap.size W0).drew).alloc lr (.cells #[] 9))
 refine hK.out _ _ (fun _=>SQ.out _ (fun k hk=>AB.out.block k hk)) ?_
 clear hK K
 (try simp only [Act.put,List.setIfInBounds_toArray,List.set_cons_zero,List.set_cons_succ])
 refine anyN_one (i:=7) rfl (by as_aux_lemma=>kernel_rfl) (fun K hK=>?_)
 go_simp
 have AC:Hid (Below W0.heap.size W0 (W0.alloc (.cells #[] 9)).drew):=((Below.refl W0.heap.size W0).alloc lr _).drew
 refine hK.out _ _ (fun _=>SQ.out _ (fun k hk=>AC.out.block k hk)) ?_
 clear hK K
 (try simp only [Act.put,List.setIfInBounds_toArray,List.set_cons_zero,List.set_cons_succ])
 have LO:Hid ((W0.alloc (.cells #[] 9)).drew.ownsRow W0.heap.size 9 1 (.slice (some ⟨W0.heap.size,0,none⟩) 0 0) 0 []):=own_below (lit_own W0 9 1) (Below.refl _ _).drew lr 
 generalize (W0.alloc (.cells #[] 9)).drew=W1 at AC LO ⊢
 have HS1:=hide (SQ.out W1 (fun k hk=>AC.out.block k hk))
 clear HS
 have HS:=hide HS1.out
 refine anyN_nx 8 (v:=?_) rfl rfl (by as_aux_lemma=>kernel_rfl) (fun _ _ _ h=>h) rfl ?_ HS.out ?_
 rotate_left
 ·(intro wz hSw;obtain ⟨s0,s1,s2⟩:=hSw;go_simp)
  (try with_reducible rfl)
 (try simp only [Act.put,List.setIfInBounds_toArray,List.set_cons_zero,List.set_cons_succ])
 obtain ⟨rl,r0,r1,r2,rf⟩:=three_fact ((AC.out.block _ hz0).trans kR.out)
 have rf0:=rf 0
 have rf1:=rf 1
 have rf2:=rf 2
 clear rf
 refine anyN_one (i:=9) rfl (by as_aux_lemma=>kernel_rfl) (fun K hK=>?_)
 go_simp
 refine hK.out _ _ (fun h=>absurd rfl h) ?_
 clear hK K HS
 (try simp only [Act.put])
 refine anyN_done (by as_aux_lemma=>kernel_rfl) ?_ _
 go_wp2_with fail
 refine bodyPost_ret (v:=.agg #[.int .i64 rc,.string rt,.slice (some ⟨W0.heap.size,0,none⟩) 0 0]) (by simp [results,Tryz.results35,go_sem,r0,r1,r2]) rfl ⟨_,rfl,⟨some ⟨W0.heap.size,0,none⟩,0,rfl,?_⟩,?_⟩
 ·refine own_mono (own_other (own_other (own_other LO.out (fun e=>?_) _ _) (fun e=>?_) _ _) (fun e=>?_) _ _) A0.out.size
  all_goals
   have:=(own_cellsM LO.out _ e).1
   omega
 ·exact (((A0.out.trans (AC.out.mono A0.out.size)).setCell (p:=⟨w.heap.size+1,0,none⟩) (Nat.le_succ _) _).setCell (p:=⟨w.heap.size+1,1,none⟩) (Nat.le_succ _) _).setCell (p:=⟨w.heap.size+1,2,none⟩) (Nat.le_succ _) _
theorem copy_some (w:World)(rc:Int)(rt:ByteArray)(ch:List ByteArray)(g n c B:Nat)(hn:n=ch.length)(hlen:n≤1000)(ho:w.ownsRow B 9 1 (.slice (some ⟨g,0,none⟩) n c) n (strV ch)) :
  Calls Tryz.prog 35 #[.agg #[.int .i64 rc,.string rt,.slice (some ⟨g,0,none⟩) n c]] w fun e w'=>∃ rv,e=.returned rv∧ResAt w w' ⟨rc,rt,ch⟩ rv∧Below w.heap.size w w':=by
 obtain ⟨i1,hi1,hy0,hy1,hy2⟩:=infoS2 infoStrS
 have HO:=hide ho
 have HN:=hide hn
 clear ho hn
 have A0:=hide (((Below.refl w.heap.size w).alloc lr (.cells #[.int .i64 rc,.string rt,.slice (some ⟨g,0,none⟩) n c] 29)).alloc (by simp) (.cells #[.int .i64 0,.string ⟨#[]⟩,.slice none 0 0] 29))
 have kR:Hid (((w.alloc (.cells #[.int .i64 rc,.string rt,.slice (some ⟨g,0,none⟩) n c] 29)).alloc (.cells #[.int .i64 0,.string ⟨#[]⟩,.slice none 0 0] 29)).heap[w.heap.size+1]?=some (.cells #[.int .i64 0,.string ⟨#[]⟩,.slice none 0 0] 29 (0,0))):=by
  have h2:=heap_alloc_new (w.alloc (.cells #[.int .i64 rc,.string rt,.slice (some ⟨g,0,none⟩) n c] 29)) (.cells #[.int .i64 0,.string ⟨#[]⟩,.slice none 0 0] 29)
  rw [show (w.alloc (.cells #[.int .i64 rc,.string rt,.slice (some ⟨g,0,none⟩) n c] 29)).heap.size=w.heap.size+1 by simp] at h2
  exact h2
 have kP:Hid (((w.alloc (.cells #[.int .i64 rc,.string rt,.slice (some ⟨g,0,none⟩) n c] 29)).alloc (.cells #[.int .i64 0,.string ⟨#[]⟩,.slice none 0 0] 29)).heap[w.heap.size]?=some (.cells #[.int .i64 rc,.string rt,.slice (some ⟨g,0,none⟩) n c] 29 (0,0))):=by
  have h2:=heap_alloc_new w (.cells #[.int .i64 rc,.string rt,.slice (some ⟨g,0,none⟩) n c] 29)
  exact (((Below.refl (w.heap.size+1) _).alloc (by simp) _).block w.heap.size (by omega)).trans h2
 go_enter Tryz.func35,Tryz.ntmps35
 go_upto_region 1 with fail
 generalize (w.alloc (.cells #[.int .i64 rc,.string rt,.slice (some ⟨g,0,none⟩) n c] 29)).alloc (.cells #[.int .i64 0,.string ⟨#[]⟩,.slice none 0 0] 29)=W0 at A0 kR kP ⊢
 obtain ⟨-,p0,p1,p2,-⟩:=three_fact kP.out
 have hz0:w.heap.size+1<W0.heap.size:=heap_lt kR.out
 have SQ:Hid (∀ V:World,(∀ k,k<W0.heap.size→V.heap[k]?=W0.heap[k]?)→V.cell? ⟨w.heap.size,0,none⟩=some (.int .i64 rc)∧V.cell? ⟨w.heap.size,1,none⟩=some (.string rt)∧V.cell? ⟨w.heap.size,2,none⟩=some (.slice (some ⟨g,0,none⟩) n c)):=fun V hV=>by
  have e:=World.cell?_of_block (a:=⟨w.heap.size,0,none⟩) (hV w.heap.size (by omega))
  have e1:=World.cell?_of_block (a:=⟨w.heap.size,1,none⟩) (hV w.heap.size (by omega))
  have e2:=World.cell?_of_block (a:=⟨w.heap.size,2,none⟩) (hV w.heap.size (by omega))
  exact ⟨e.trans p0,e1.trans p1,e2.trans p2⟩
 have HS:=hide (SQ.out W0.drew (fun k hk=>rfl))
 refine wp_region_N (fun V=>V.cell? ⟨w.heap.size,0,none⟩=some (.int .i64 rc)∧V.cell? ⟨w.heap.size,1,none⟩=some (.string rt)∧V.cell? ⟨w.heap.size,2,none⟩=some (.slice (some ⟨g,0,none⟩) n c)) 9 (by as_aux_lemma=>kernel_rfl) ?_
 clear p0 p1 p2
 iterate 4
  refine anyN_nx 0 (v:=?_) rfl rfl (by as_aux_lemma=>kernel_rfl) (fun _ _ _ h=>h) rfl ?_ HS.out ?_
  rotate_left
  ·(intro wz hSw;obtain ⟨s0,s1,s2⟩:=hSw;go_simp)
   (try with_reducible rfl)
  (try simp only [Act.put,List.setIfInBounds_toArray,List.set_cons_zero,List.set_cons_succ])
 iterate 2
  refine anyN_nx 5 (v:=?_) rfl rfl (by as_aux_lemma=>kernel_rfl) (fun _ _ _ h=>h) rfl ?_ HS.out ?_
  rotate_left
  ·(intro wz hSw;obtain ⟨s0,s1,s2⟩:=hSw;go_simp)
   (try with_reducible rfl)
  (try simp only [Act.put,List.setIfInBounds_toArray,List.set_cons_zero,List.set_cons_succ])
 refine anyN_one (i:=4) rfl (by as_aux_lemma=>kernel_rfl) (fun K hK=>?_)
 go_simp
 have AB:=hide (((Below.refl W0.heap.size W0).drew).alloc lr (.cells #[] 9))
 refine hK.out _ _ (fun _=>SQ.out _ (fun k hk=>AB.out.block k hk)) ?_
 clear hK K
 (try simp only [Act.put,List.setIfInBounds_toArray,List.set_cons_zero,List.set_cons_succ])
 have AC0:Hid (Below W0.heap.size W0 (W0.alloc (.cells #[] 9)).drew):=((Below.refl W0.heap.size W0).alloc lr _).drew
 have LO0:Hid ((W0.alloc (.cells #[] 9)).drew.ownsRow W0.heap.size 9 1 (.slice (some ⟨W0.heap.size,0,none⟩) 0 0) 0 []):=own_below (lit_own W0 9 1) (Below.refl _ _).drew lr 
 have RO:Hid ((W0.alloc (.cells #[] 9)).drew.ownsRow B 9 1 (.slice (some ⟨g,0,none⟩) n c) n (strV ch)):=own_below (own_below HO.out A0.out lr) AC0.out lr 
 refine anyN_one (i:=7) rfl (by as_aux_lemma=>kernel_rfl) (fun K hK=>?_)
 refine step_append_own_at (w:=(W0.alloc (.cells #[] 9)).drew) rfl (.tmp 7) (.tmp 9) 27 rfl W0.heap.size 9 i1 (.string ⟨#[]⟩) 1 16 Tryz.underlying27 hi1 hy0 hy1 hy2 rfl (by decide) (.slice (some ⟨W0.heap.size,0,none⟩) 0 0) 0 [] (by simp [Act.eval]) LO0.out ⟨g,0,none⟩ n c (strV ch) (by simp [Act.eval]) (by rw [strV,List.length_map,← HN.out,Nat.mul_one]) (fun q u h=>RO.out.cells (g:=g) rfl q u h) (fun u hu=>by rw [strV,List.mem_map] at hu;obtain ⟨t,_,rfl⟩:=hu;rfl) (by unfold maxLen;omega) (by omega) AC0.out.size ?_
 intro v1 W1 hown hgrow hat
 have AC:Hid (Below W0.heap.size W0 W1):=AC0.out.trans (Below.grown (Below.refl W0.heap.size _) hgrow AC0.out.size (fun j e=>(LO0.out.lt j e).1))
 rw [Nat.zero_add,List.nil_append] at hown
 have LO:=hide hown
 obtain ⟨a1,c1,rfl⟩:=sh_slice hown
 clear hown hgrow hat AC0 LO0 RO AB
 refine hK.out _ _ (fun _=>SQ.out _ (fun k hk=>AC.out.block k hk)) ?_
 clear hK K
 (try simp only [Act.put,List.setIfInBounds_toArray,List.set_cons_zero,List.set_cons_succ])
 have HS1:=hide (SQ.out W1 (fun k hk=>AC.out.block k hk))
 clear HS
 have HS:=hide HS1.out
 refine anyN_nx 8 (v:=?_) rfl rfl (by as_aux_lemma=>kernel_rfl) (fun _ _ _ h=>h) rfl ?_ HS.out ?_
 rotate_left
 ·(intro wz hSw;obtain ⟨s0,s1,s2⟩:=hSw;go_simp)
  (try with_reducible rfl)
 (try simp only [Act.put,List.setIfInBounds_toArray,List.set_cons_zero,List.set_cons_succ])
 obtain ⟨rl,r0,r1,r2,rf⟩:=three_fact ((AC.out.block _ hz0).trans kR.out)
 have rf0:=rf 0
 have rf1:=rf 1
 have rf2:=rf 2
 clear rf
 refine anyN_one (i:=9) rfl (by as_aux_lemma=>kernel_rfl) (fun K hK=>?_)
 go_simp
 refine hK.out _ _ (fun h=>absurd rfl h) ?_
 clear hK K HS
 (try simp only [Act.put])
 refine anyN_done (by as_aux_lemma=>kernel_rfl) ?_ _
 go_wp2_with fail
 refine bodyPost_ret (v:=.agg #[.int .i64 rc,.string rt,.slice a1 n c1]) (by simp [results,Tryz.results35,go_sem,r0,r1,r2]) rfl ⟨_,rfl,⟨a1,c1,by rw [← HN.out],?_⟩,?_⟩
 ·show World.ownsRow _ _ _ _ _ ch.length _
  rw [← HN.out]
  refine own_mono (own_other (own_other (own_other LO.out (fun e=>?_) _ _) (fun e=>?_) _ _) (fun e=>?_) _ _) A0.out.size
  all_goals
   have:=(own_cellsM LO.out _ e).1
   omega
 ·exact (((A0.out.trans (AC.out.mono A0.out.size)).setCell (p:=⟨w.heap.size+1,0,none⟩) (Nat.le_succ _) _).setCell (p:=⟨w.heap.size+1,1,none⟩) (Nat.le_succ _) _).setCell (p:=⟨w.heap.size+1,2,none⟩) (Nat.le_succ _) _
theorem l2Copy_any (w:World)(r:ResL)(a:Option Addr)(c B:Nat)(ho:w.ownsRow B 9 1 (.slice a r.chain.length c) r.chain.length (strV r.chain))(hlen:r.chain.length≤1000) :
  Calls Tryz.prog 35 #[.agg #[.int .i64 r.code,.string r.text,.slice a r.chain.length c]] w fun e w'=>∃ rv,e=.returned rv∧ResAt w w' r rv∧Below w.heap.size w w':=by
 obtain ⟨rc,rt,ch⟩:=r
 simp only at ho hlen ⊢
 obtain ⟨h0,⟨hv,hn⟩ | ⟨g,cap,cur,hv,h2⟩⟩:=id ho
 ·have hch:ch=[]:=List.length_eq_zero_iff.1 hn
  subst hch
  cases hv
  exact copy_nil w rc rt
 ·have e1:=hv
  simp only [Value.slice.injEq] at e1
  obtain ⟨rfl,-,rfl⟩:=e1
  exact copy_some w rc rt ch g ch.length c B rfl hlen ho
theorem runL_chain {S:Spc}{lies:List Ent→ByteArray→Out Ent}{t K:Nat}(hl:∀ made nm c,lies made nm=.inr (.inl c)→c.length≤K):∀ k made ys ls c,runL S lies t k made ys ls=.inr (.inl c)→c.length≤K:=by
 intro k
 induction k with
 | zero=>intro made ys ls c h;cases h
 | succ k ih =>
  intro made ys ls c h
  rw [runL] at h
  split at h
  ·cases h
  ·split at h
   ·exact ih _ _ _ _ h
   ·split at h
    ·exact ih _ _ _ _ h
    ·rename_i c' he
     cases h
     exact hl _ _ _ he
    ·cases h
theorem liesP_chain (S:Spc):∀ n making made nm c,liesP S n making made nm=.inr (.inl c)→c.length≤making.length+n:=by
 intro n
 have key:∀ making made nm c (K:Nat) (tgt:Nat→Out Ent),making.length≤K→(∀ t c,tgt t=.inr (.inl c)→c.length≤K)→liesB S tgt making made nm=.inr (.inl c)→c.length≤K:=by
  intro making made nm c K tgt hK ht h
  unfold liesB at h
  split at h
  ·cases h
  ·split at h
   ·cases h
    rw [List.length_drop]
    omega
   ·unfold freshB addE at h
    split at h
    ·cases h
    ·split at h
     ·exact ht _ _ h
     ·cases h
 induction n with
 | zero =>
  intro making made nm c h
  rw [liesP] at h
  exact key _ _ _ _ _ _ (by omega) (fun t c h=>by cases h) h
 | succ n ih =>
  intro making made nm c h
  rw [liesP] at h
  refine key _ _ _ _ _ _ (by omega) (fun t c h=>?_) h
  rcases hr:runL S (liesP S n (making++[nm])) t 201 made [] [] with ⟨made1,x⟩ | c1 | d
  ·rw [hr] at h;cases h
  ·rw [hr] at h
   cases h
   refine runL_chain (fun made nm2 c2 h2=>?_) _ _ _ _ _ hr
   have:=ih _ _ _ _ h2
   rw [List.length_append,List.length_singleton] at this
   omega
  ·rw [hr] at h;cases h
section
variable {S:Spc}{a0 a1:Option Addr}{c0 c1:Nat}
end
section
variable {S:Spc}{a0 a1:Option Addr}{c0 c1:Nat}
end
end Go.Proofs.YtfnbojfnelfnkaaGreatDoor.Vp
namespace Go.Proofs.YtfnbojfnelfnkaaGreatDoor.Vp
open Go.RowKit
def btF (L:List ByteArray)(i:Nat):ByteArray:=L.getD i ⟨#[]⟩
theorem btF_at {L:List ByteArray}{i:Nat}(hi:i<L.length):L[i]?=some (btF L i):=by
 rw [btF,List.getD_eq_getElem?_getD,List.getElem?_eq_getElem hi]
 rfl
def ChAt (w:World)(base hi:Nat)(p:Option Addr)(g:Nat)(L:List ByteArray):Prop:=L.length=0∨(p=some ⟨g,0,none⟩∧base≤g∧g<hi∧RowStr w g 0 L.length (btF L)∧∃ F,Cells w g 0 L.length F)
theorem ch_of {w:World}{base c:Nat}{a:Option Addr}{L:List ByteArray}(h:w.ownsRow base 9 1 (.slice a L.length c) L.length (strV L)):∃ g,ChAt w base w.heap.size a g L:=by
 by_cases hz:L.length=0
 ·exact ⟨0,.inl hz⟩
 ·obtain ⟨g,cap,e⟩:=own_form h (by omega)
  simp only [Value.slice.injEq] at e
  obtain ⟨rfl,-,rfl⟩:=e
  have hg:=own_lt h
  have hc:∀ j,j<L.length→w.cell? ⟨g,j,none⟩=some (.string (btF L j))∧w.frozen? ⟨g,j,none⟩=false:=fun j hj=>own_cell h (by rw [strV,List.getElem?_map,btF_at hj];rfl)
  refine ⟨g,.inr ⟨rfl,hg.1,hg.2,⟨hg.2,fun j hj=>?_⟩,fun j=>.string (btF L j),hg.2,fun j hj=>?_⟩⟩
  ·rw [Nat.zero_add]
   exact (hc j hj).1
  ·rw [Nat.zero_add]
   exact hc j hj
theorem ChAt.sl {w:World}{base hi g:Nat}{p:Option Addr}{L:List ByteArray}(h:ChAt w base hi p g L):SlStr w p L.length (btF L):=by
 rcases h with h | ⟨h1,_,_,h3,_⟩
 ·exact .inl h
 ·exact .inr ⟨g,0,h1,h3⟩
theorem ChAt.room {w:World}{base hi g:Nat}{p:Option Addr}{L:List ByteArray}(h:ChAt w base hi p g L):Room w p L.length g L.length:=by
 rcases h with h | ⟨h1,_,_,_,h4⟩
 ·exact .inl h
 ·exact .inr ⟨h1,h4⟩
theorem ChAt.below {w w':World}{base hi g:Nat}{p:Option Addr}{L:List ByteArray}(h:ChAt w base hi p g L)(hb:Below w.heap.size w w'):ChAt w' base hi p g L:=by
 rcases h with h | ⟨h1,h2,h3,h4,F,h5⟩
 ·exact .inl h
 ·exact .inr ⟨h1,h2,h3,h4.below hb lr,F,h5.below hb h5.1⟩
theorem ChAt.touch {w w':World}{base hi g:Nat}{p:Option Addr}{L:List ByteArray}{P:Nat→Prop}(h:ChAt w base hi p g L)(hT:Touch P w w')(hP:∀ x,P x→x<base∨hi≤x):ChAt w' base hi p g L:=by
 rcases h with h | ⟨h1,h2,h3,h4,F,h5⟩
 ·exact .inl h
 ·have hg:¬ P g:=fun hp=>by have:=hP g hp;omega
  exact .inr ⟨h1,h2,h3,⟨Nat.lt_of_lt_of_le h4.1 hT.size,fun i hi=>(hT.cell (p:=⟨g,0+i,none⟩) h4.1 hg).trans (h4.2 i hi)⟩,F,h5.touch hT hg⟩
theorem ChAt.ge {w:World}{base hi g:Nat}{p:Option Addr}{L:List ByteArray}(h:ChAt w base hi p g L)(hz:L.length≠0):base≤g∧g<hi:=⟨(h.resolve_left hz).2.1,(h.resolve_left hz).2.2.1⟩
theorem build_chain (S:Spc)(nm:ByteArray):(buildP S nm).2.chain.length≤60:=by
 unfold buildP
 split
 ·have h:=liesP_chain S 60 [] [] nm
  split
  ·unfold resE
   split<;>simp
  ·rename_i c e
   have:=h c e
   simpa using this
  ·simp
 ·simp
structure Three (w:World)(b:Nat)(v0 v1 v2:Value):Prop where
 lt:b<w.heap.size
 c0:w.cell? ⟨b,0,none⟩=some v0
 c1:w.cell? ⟨b,1,none⟩=some v1
 c2:w.cell? ⟨b,2,none⟩=some v2
theorem Three.block {w w':World}{b:Nat}{v0 v1 v2:Value}(h:Three w b v0 v1 v2)(hz:w.heap.size≤w'.heap.size)(hb:w'.heap[b]?=w.heap[b]?):Three w' b v0 v1 v2 :=
 ⟨Nat.lt_of_lt_of_le h.lt hz,(World.cell?_of_block (a:=⟨b,0,none⟩) hb).trans h.c0,(World.cell?_of_block (a:=⟨b,1,none⟩) hb).trans h.c1,(World.cell?_of_block (a:=⟨b,2,none⟩) hb).trans h.c2⟩
theorem Three.below {w w':World}{b:Nat}{v0 v1 v2:Value}(h:Three w b v0 v1 v2)(hb:Below w.heap.size w w'):Three w' b v0 v1 v2:=h.block hb.size (hb.block b h.lt)
theorem Three.touch {w w':World}{b:Nat}{v0 v1 v2:Value}{P:Nat→Prop}(h:Three w b v0 v1 v2)(ht:Touch P w w')(hb:¬ P b):Three w' b v0 v1 v2:=h.block ht.size (ht.block b h.lt hb)
theorem three_box (w:World)(v0 v1 v2:Value)(t:TypeId):Three (w.alloc (.cells #[v0,v1,v2] t)) w.heap.size v0 v1 v2:=⟨by simp,by simp,by simp,by simp⟩
theorem markStr_sl (p:Option Addr)(n cap k0 b:Nat)(w:World)(hn:(n:Int)≤1048576)(h1:1≤(k0:Int))(h2:(k0:Int)≤1152921504606846976)(h:Room w p n b n) :
  Calls Tryz.prog 45 #[.slice p n cap,.int .i64 k0] w fun e w'=>e=.returned (.int .i64 ((k0+n:Nat):Int))∧(n=0∨(p=some ⟨b,0,none⟩∧Cells w' b 0 n (markStr k0)))∧Touch (fun x=>n≠0∧x=b) w w':=by
 by_cases hz:n=0
 ·subst hz
  exact (markStringS_nil p cap k0 w).mono fun e w' ⟨a,b⟩=>⟨by simpa using a,.inl rfl,by rw [b];exact Touch.refl _ _⟩
 ·obtain ⟨rfl,G,hG⟩:=h.resolve_left hz
  exact (markStringS_row b 0 n cap k0 G w hn h1 h2 hG).mono fun e w' ⟨x,y,z⟩=>⟨x,.inr ⟨rfl,y⟩,Touch.of_within z ⟨hz,rfl⟩⟩
theorem heldStr_sl (p:Option Addr)(n cap k0 b:Nat)(w:World)(hn:(n:Int)≤1048576)(h1:1≤(k0:Int))(h2:(k0:Int)≤1152921504606846976)(h:n=0∨(p=some ⟨b,0,none⟩∧Cells w b 0 n (markStr k0))) :
  Calls Tryz.prog 46 #[.slice p n cap,.int .i64 k0] w fun e w'=>e=.returned (.int .i64 ((k0+n:Nat):Int))∧Below w.heap.size w w':=by
 by_cases hz:n=0
 ·subst hz
  exact (heldStringS_nil p cap k0 w).mono fun e w' ⟨a,b⟩=>⟨by simpa using a,by rw [b];exact Below.refl _ _⟩
 ·obtain ⟨rfl,hG⟩:=h.resolve_left hz
  exact heldStringS_row b 0 n cap k0 w hn h1 h2 hG
end Go.Proofs.YtfnbojfnelfnkaaGreatDoor.Vp
