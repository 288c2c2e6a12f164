import Derived.Test.YtkophfgkcijjkaaGreatDoorYT
import Derived.Test.YtkophfgkcijjkaaGreatDoorYU
set_option maxRecDepth 100000
set_option maxHeartbeats 4000000
namespace Go.Proofs.YtkophfgkcijjkaaGreatDoor.Vp
open RowKit Ca
def pX (w0:World)(hb:Nat)(s0 s1:Value)(w':World):Out Ent→Prop
 | .inl (made',x)=>∃ L md or st,ShBox w' hb s0 s1 md or st (bV x).code (bV x).text (.slice none 0 0) false∧w'.ownsRow w0.heap.size 236 6 md L.length (L.flatMap smV)∧w'.ownsRow w0.heap.size 9 1 or made'.length (aU (made'.map (·.name)))∧(∀ m∈L,m.done=true→w'.ownsRow w0.heap.size 239 3 m.sv m.seen.length (da m.seen))∧ep L [] made'
 | .inr (.inl c)=>∃ a k,gJ w0 hb w' (eE c) (.slice a c.length k)
 | .inr (.inr d)=>gJ w0 hb w' (eF d) (.slice none 0 0)
section
variable {S:Spc}{a0 a1:Option Addr}{c0 c1:Nat}
theorem pq (w:World)(C:io w S a0 a1)(nm:ByteArray)(hn:au nm=true) :
  Calls Tryz.prog 89 #[.agg #[.slice a0 S.n0 c0,.slice a1 S.n1 c1],.string nm] w fun e w'=>∃ hb,e=.returned (.pointer (some ⟨hb,0,none⟩))∧pX w hb (.slice a0 S.n0 c0) (.slice a1 S.n1 c1) w' (aG S 60 [] [] nm)∧Below w.heap.size w w':=by
 obtain ⟨R,hR⟩:∃ R,R=aG S 60 [] [] nm:=⟨_,rfl⟩
 have HM:Hid (∀ (W:World) (hb:Nat),SI w hb (.slice a0 S.n0 c0) (.slice a1 S.n1 c1) W [] [] [] (.slice none 0 0) (.slice none 0 0) (.slice none 0 0)→Calls Tryz.prog 155 #[.pointer (some ⟨hb,0,none⟩),.string nm] W fun e w'=>gh w hb (.slice a0 S.n0 c0) (.slice a1 S.n1 c1) [] [] W e w' R):=by
  intro W hb hS
  rw [hR]
  refine uV C 60 [] [] [] _ _ _ W nm rfl hS ⟨List.Pairwise.nil,rfl,fun x hx=>absurd hx List.not_mem_nil,fun x hx=>absurd hx List.not_mem_nil,fun x hx=>absurd hx List.not_mem_nil⟩ (eC S []) ?_ (fun x hx=>absurd hx List.not_mem_nil) hn
  have h1:=oD S
  have h2:=C.ok.small
  unfold eo
  simp only [List.length_nil]
  omega
 rw [← hR]
 have zA:(w.alloc (.cells #[.slice a0 S.n0 c0,.slice a1 S.n1 c1] 26)).heap.size=w.heap.size+1:=by simp
 have A0:=ae (((Below.refl w.heap.size w).alloc lr (.cells #[.slice a0 S.n0 c0,.slice a1 S.n1 c1] 26)).alloc (by simp) (.cells #[.slice a0 S.n0 c0,.slice a1 S.n1 c1,.slice none 0 0,.slice none 0 0,.slice none 0 0,.int .i64 0,.string ⟨#[]⟩,.slice none 0 0,.bool false] 125))
 have S0:Hid (SI w (w.heap.size+1) (.slice a0 S.n0 c0) (.slice a1 S.n1 c1) ((w.alloc (.cells #[.slice a0 S.n0 c0,.slice a1 S.n1 c1] 26)).alloc (.cells #[.slice a0 S.n0 c0,.slice a1 S.n1 c1,.slice none 0 0,.slice none 0 0,.slice none 0 0,.int .i64 0,.string ⟨#[]⟩,.slice none 0 0,.bool false] 125)) [] [] [] (.slice none 0 0) (.slice none 0 0) (.slice none 0 0)):=by
  refine ⟨A0.out,Nat.le_succ _,?_,⟨rfl,.inl ⟨rfl,rfl⟩⟩,⟨rfl,.inl ⟨rfl,rfl⟩⟩,⟨rfl,.inl ⟨rfl,rfl⟩⟩,(fun k h=>by cases h),fun m hm=>absurd hm List.not_mem_nil⟩
  have h2:=heap_alloc_new (w.alloc (.cells #[.slice a0 S.n0 c0,.slice a1 S.n1 c1] 26)) (.cells #[.slice a0 S.n0 c0,.slice a1 S.n1 c1,.slice none 0 0,.slice none 0 0,.slice none 0 0,.int .i64 0,.string ⟨#[]⟩,.slice none 0 0,.bool false] 125)
  rw [zA] at h2
  exact h2
 clear hn C hR zA
 go_enter Tryz.func89,Tryz.ntmps89
 go_wp2_with fail
 generalize (w.alloc (.cells #[.slice a0 S.n0 c0,.slice a1 S.n1 c1] 26)).alloc (.cells #[.slice a0 S.n0 c0,.slice a1 S.n1 c1,.slice none 0 0,.slice none 0 0,.slice none 0 0,.int .i64 0,.string ⟨#[]⟩,.slice none 0 0,.bool false] 125)=W0 at A0 S0 ⊢
 obtain ⟨hb,hhb⟩:∃ hb,hb=w.heap.size+1:=⟨_,rfl⟩
 rw [← hhb] at S0 ⊢
 have hhw:w.heap.size≤hb:=by omega
 clear hhb
 refine (HM.out W0 hb S0.out).mono ?_
 clear HM
 rintro e w1 hpost
 rcases R with ⟨made',x⟩ | c | d
 ·obtain ⟨L,md,or,st,rfl,hS,hrel,-,hK8⟩:=hpost
  have B1:=ae (A0.out.trans hK8.below)
  have REL:=ae hrel
  obtain ⟨rc,hrc⟩:∃ rc,rc=(bV x).code:=⟨_,rfl⟩
  obtain ⟨rt,hrt⟩:∃ rt,rt=(bV x).text:=⟨_,rfl⟩
  have HRC:=ae hrc
  have HRT:=ae hrt
  rw [← hrc,← hrt]
  have A2:=ae ((Below.refl w1.heap.size w1).alloc lr (.cells #[.int .i64 rc,.string rt,.slice none 0 0] 41))
  have S2:=ae (hS.below A2.out lr)
  clear hK8 hrel hS hrc hrt
  obtain ⟨hbl,-,-,-,-,-,b5,b6,b7,b8,bf⟩:=S2.out.box.facts
  have bf5:=bf 5
  have bf6:=bf 6
  have bf7:=bf 7
  clear bf
  go_wp2_with fail
  go_ret
  have hrow:∀ {size n:Nat} {t':TypeId} {u:Value} {ys:List Value},(w1.alloc (.cells #[.int .i64 rc,.string rt,.slice none 0 0] 41)).ownsRow w.heap.size t' size u n ys→125≠t'→((((w1.alloc (.cells #[.int .i64 rc,.string rt,.slice none 0 0] 41)).setCell ⟨hb,5,none⟩ (.int .i64 rc)).setCell ⟨hb,6,none⟩ (.string rt)).setCell ⟨hb,7,none⟩ (.slice none 0 0)).ownsRow w.heap.size t' size u n ys:=fun hr ht=>by
   rename_i size n t' u ys
   have hne:u.ownBlock≠some hb:=fun e=>by
    obtain ⟨_,_,cs2,hc2⟩:=af hr hb e
    exact absurd (ah S2.out.box hc2) ht
   exact ar (ar (ar hr hne _ _) hne _ _) hne _ _
  refine ⟨hb,rfl,⟨L,md,or,st,?_,hrow S2.out.rmd (by decide),hrow S2.out.ror (by decide),fun m hm hd=>hrow (S2.out.seen m hm hd) (by decide),REL.out⟩,?_⟩
  ·rw [← HRC.out,← HRT.out]
   exact an (an (an S2.out.box (j:=5) _) (j:=6) _) (j:=7) _
  ·exact (((B1.out.trans (A2.out.mono B1.out.size)).setCell (p:=⟨hb,5,none⟩) hhw _).setCell (p:=⟨hb,6,none⟩) hhw _).setCell (p:=⟨hb,7,none⟩) hhw _
 ·obtain ⟨a,k,rfl,⟨s0,s1,md8,or8,st8,hbox,hrow8⟩,hK8⟩:=hpost
  have HBX:=ae hbox
  have HRW:=ae hrow8
  have B1:=ae (A0.out.trans hK8.below)
  clear hbox hrow8 hK8
  unfold fb eE
  dsimp only
  have A2:=ae ((Below.refl w1.heap.size w1).alloc lr (.cells #[.int .i64 6,.string ⟨#[]⟩,.slice a c.length k] 41))
  have BX2:=ae (ShBox.blk HBX.out (A2.out.block _ (ai HBX.out)))
  obtain ⟨hbl,-,-,-,-,-,-,-,-,b8,-⟩:=BX2.out.facts
  go_wp2_with fail
  go_ret
  exact ⟨hb,rfl,⟨a,k,_,_,_,_,_,BX2.out,own_below HRW.out A2.out lr⟩,B1.out.trans (A2.out.mono B1.out.size)⟩
 ·obtain ⟨rfl,⟨s0,s1,md8,or8,st8,hbox,hrow8⟩,hK8⟩:=hpost
  have HBX:=ae hbox
  have HRW:=ae hrow8
  have B1:=ae (A0.out.trans hK8.below)
  clear hbox hrow8 hK8
  unfold fb eF
  dsimp only
  have A2:=ae ((Below.refl w1.heap.size w1).alloc lr (.cells #[.int .i64 7,.string d,.slice none 0 0] 41))
  have BX2:=ae (ShBox.blk HBX.out (A2.out.block _ (ai HBX.out)))
  obtain ⟨hbl,-,-,-,-,-,-,-,-,b8,-⟩:=BX2.out.facts
  go_wp2_with fail
  go_ret
  exact ⟨hb,rfl,⟨_,_,_,_,_,BX2.out,own_below HRW.out A2.out lr⟩,B1.out.trans (A2.out.mono B1.out.size)⟩
end
theorem vb (w:World)(rc:Int)(rt:ByteArray) :
  Calls Tryz.prog 88 #[.agg #[.int .i64 rc,.string rt,.slice none 0 0]] w fun e w'=>∃ rv,e=.returned rv∧fy w w' ⟨rc,rt,[]⟩ rv∧Below w.heap.size w w':=by
 have A0:=ae (((Below.refl w.heap.size w).alloc lr (.cells #[.int .i64 rc,.string rt,.slice none 0 0] 41)).alloc (by simp) (.cells #[.int .i64 0,.string ⟨#[]⟩,.slice none 0 0] 41))
 have kR:Hid (((w.alloc (.cells #[.int .i64 rc,.string rt,.slice none 0 0] 41)).alloc (.cells #[.int .i64 0,.string ⟨#[]⟩,.slice none 0 0] 41)).heap[w.heap.size+1]?=some (.cells #[.int .i64 0,.string ⟨#[]⟩,.slice none 0 0] 41 (0,0))):=by
  have h2:=heap_alloc_new (w.alloc (.cells #[.int .i64 rc,.string rt,.slice none 0 0] 41)) (.cells #[.int .i64 0,.string ⟨#[]⟩,.slice none 0 0] 41)
  rw [show (w.alloc (.cells #[.int .i64 rc,.string rt,.slice none 0 0] 41)).heap.size=w.heap.size+1 by simp] at h2
  exact h2
 have kP:Hid (((w.alloc (.cells #[.int .i64 rc,.string rt,.slice none 0 0] 41)).alloc (.cells #[.int .i64 0,.string ⟨#[]⟩,.slice none 0 0] 41)).heap[w.heap.size]?=some (.cells #[.int .i64 rc,.string rt,.slice none 0 0] 41 (0,0))):=by
  have h2:=heap_alloc_new w (.cells #[.int .i64 rc,.string rt,.slice none 0 0] 41)
  exact (((Below.refl (w.heap.size+1) _).alloc (by simp) _).block w.heap.size (by omega)).trans h2
 go_enter Tryz.func88,Tryz.ntmps88
 go_upto_region 1 with fail
 generalize (w.alloc (.cells #[.int .i64 rc,.string rt,.slice none 0 0] 41)).alloc (.cells #[.int .i64 0,.string ⟨#[]⟩,.slice none 0 0] 41)=W0 at A0 kR kP ⊢
 obtain ⟨-,p0,p1,p2,-⟩:=aE kP.out
 have hz0:w.heap.size+1<W0.heap.size:=ai kR.out
 have SQ:Hid (∀ V:World,(∀ k,k<W0.heap.size→V.heap[k]?=W0.heap[k]?)→V.cell? ⟨w.heap.size,0,none⟩=some (.int .i64 rc)∧V.cell? ⟨w.heap.size,1,none⟩=some (.string rt)∧V.cell? ⟨w.heap.size,2,none⟩=some (.slice none 0 0)):=fun V hV=>by
  have e:=World.cell?_of_block (a:=⟨w.heap.size,0,none⟩) (hV w.heap.size (by omega))
  have e1:=World.cell?_of_block (a:=⟨w.heap.size,1,none⟩) (hV w.heap.size (by omega))
  have e2:=World.cell?_of_block (a:=⟨w.heap.size,2,none⟩) (hV w.heap.size (by omega))
  exact ⟨e.trans p0,e1.trans p1,e2.trans p2⟩
 have HS:=ae (SQ.out W0.drew (fun k hk=>rfl))
 refine aN (fun V=>V.cell? ⟨w.heap.size,0,none⟩=some (.int .i64 rc)∧V.cell? ⟨w.heap.size,1,none⟩=some (.string rt)∧V.cell? ⟨w.heap.size,2,none⟩=some (.slice none 0 0)) 9 (by as_aux_lemma=>kernel_rfl) ?_
 clear p0 p1 p2
 iterate 4
  refine aF 0 (v:=?_) rfl rfl (by as_aux_lemma=>kernel_rfl) (fun _ _ _ h=>h) rfl ?_ HS.out ?_
  rotate_left
  ·(intro wz hSw;obtain ⟨s0,s1,s2⟩:=hSw;go_simp)
   (try with_reducible rfl)
  (try simp only [Act.put,nzL])
 iterate 2
  refine aF 5 (v:=?_) rfl rfl (by as_aux_lemma=>kernel_rfl) (fun _ _ _ h=>h) rfl ?_ HS.out ?_
  rotate_left
  ·(intro wz hSw;obtain ⟨s0,s1,s2⟩:=hSw;go_simp)
   (try with_reducible rfl)
  (try simp only [Act.put,nzL])
 refine aj (i:=4) rfl (by as_aux_lemma=>kernel_rfl) (fun K hK=>?_)
 go_simp
 have AB:=ae (((Below.refl W0.heap.size W0).drew).alloc lr (.cells #[] 9))
 refine hK.out _ _ (fun _=>SQ.out _ (fun k hk=>AB.out.block k hk)) ?_
 clear hK K
 (try simp only [Act.put,nzL])
 refine aj (i:=7) rfl (by as_aux_lemma=>kernel_rfl) (fun K hK=>?_)
 go_simp
 have AC:Hid (Below W0.heap.size W0 (W0.alloc (.cells #[] 9)).drew):=((Below.refl W0.heap.size W0).alloc lr _).drew
 refine hK.out _ _ (fun _=>SQ.out _ (fun k hk=>AC.out.block k hk)) ?_
 clear hK K
 (try simp only [Act.put,nzL])
 have LO:Hid ((W0.alloc (.cells #[] 9)).drew.ownsRow W0.heap.size 9 1 (.slice (some ⟨W0.heap.size,0,none⟩) 0 0) 0 []):=own_below (gK W0 9 1) br.drew lr 
 generalize (W0.alloc (.cells #[] 9)).drew=W1 at AC LO ⊢
 have HS1:=ae (SQ.out W1 (fun k hk=>AC.out.block k hk))
 clear HS
 have HS:=ae HS1.out
 refine aF 8 (v:=?_) rfl rfl (by as_aux_lemma=>kernel_rfl) (fun _ _ _ h=>h) rfl ?_ HS.out ?_
 rotate_left
 ·(intro wz hSw;obtain ⟨s0,s1,s2⟩:=hSw;go_simp)
  (try with_reducible rfl)
 (try simp only [Act.put,nzL])
 obtain ⟨rl,r0,r1,r2,rf⟩:=aE ((AC.out.block _ hz0).trans kR.out)
 have rf0:=rf 0
 have rf1:=rf 1
 have rf2:=rf 2
 clear rf
 refine aj (i:=9) rfl (by as_aux_lemma=>kernel_rfl) (fun K hK=>?_)
 go_simp
 refine hK.out _ _ (fun h=>absurd rfl h) ?_
 clear hK K HS
 (try simp only [Act.put])
 refine bc (by as_aux_lemma=>kernel_rfl) ?_ _
 go_wp2_with fail
 refine bodyPost_ret (v:=.agg #[.int .i64 rc,.string rt,.slice (some ⟨W0.heap.size,0,none⟩) 0 0]) (by simp [results,Tryz.results88,go_sem,r0,r1,r2]) rfl ⟨_,rfl,⟨some ⟨W0.heap.size,0,none⟩,0,rfl,?_⟩,?_⟩
 ·refine aT (ar (ar (ar LO.out (fun e=>?_) _ _) (fun e=>?_) _ _) (fun e=>?_) _ _) A0.out.size
  all_goals
   have:=(af LO.out _ e).1
   omega
 ·exact (((A0.out.trans (AC.out.mono A0.out.size)).setCell (p:=⟨w.heap.size+1,0,none⟩) (Nat.le_succ _) _).setCell (p:=⟨w.heap.size+1,1,none⟩) (Nat.le_succ _) _).setCell (p:=⟨w.heap.size+1,2,none⟩) (Nat.le_succ _) _
theorem tD (w:World)(rc:Int)(rt:ByteArray)(ch:List ByteArray)(g n c B:Nat)(hn:n=ch.length)(hlen:n≤1000)(ho:w.ownsRow B 9 1 (.slice (some ⟨g,0,none⟩) n c) n (aU ch)) :
  Calls Tryz.prog 88 #[.agg #[.int .i64 rc,.string rt,.slice (some ⟨g,0,none⟩) n c]] w fun e w'=>∃ rv,e=.returned rv∧fy w w' ⟨rc,rt,ch⟩ rv∧Below w.heap.size w w':=by
 obtain ⟨i1,hi1,hy0,hy1,hy2⟩:=dR fq
 have HO:=ae ho
 have HN:=ae hn
 clear ho hn
 have A0:=ae (((Below.refl w.heap.size w).alloc lr (.cells #[.int .i64 rc,.string rt,.slice (some ⟨g,0,none⟩) n c] 41)).alloc (by simp) (.cells #[.int .i64 0,.string ⟨#[]⟩,.slice none 0 0] 41))
 have kR:Hid (((w.alloc (.cells #[.int .i64 rc,.string rt,.slice (some ⟨g,0,none⟩) n c] 41)).alloc (.cells #[.int .i64 0,.string ⟨#[]⟩,.slice none 0 0] 41)).heap[w.heap.size+1]?=some (.cells #[.int .i64 0,.string ⟨#[]⟩,.slice none 0 0] 41 (0,0))):=by
  have h2:=heap_alloc_new (w.alloc (.cells #[.int .i64 rc,.string rt,.slice (some ⟨g,0,none⟩) n c] 41)) (.cells #[.int .i64 0,.string ⟨#[]⟩,.slice none 0 0] 41)
  rw [show (w.alloc (.cells #[.int .i64 rc,.string rt,.slice (some ⟨g,0,none⟩) n c] 41)).heap.size=w.heap.size+1 by simp] at h2
  exact h2
 have kP:Hid (((w.alloc (.cells #[.int .i64 rc,.string rt,.slice (some ⟨g,0,none⟩) n c] 41)).alloc (.cells #[.int .i64 0,.string ⟨#[]⟩,.slice none 0 0] 41)).heap[w.heap.size]?=some (.cells #[.int .i64 rc,.string rt,.slice (some ⟨g,0,none⟩) n c] 41 (0,0))):=by
  have h2:=heap_alloc_new w (.cells #[.int .i64 rc,.string rt,.slice (some ⟨g,0,none⟩) n c] 41)
  exact (((Below.refl (w.heap.size+1) _).alloc (by simp) _).block w.heap.size (by omega)).trans h2
 go_enter Tryz.func88,Tryz.ntmps88
 go_upto_region 1 with fail
 generalize (w.alloc (.cells #[.int .i64 rc,.string rt,.slice (some ⟨g,0,none⟩) n c] 41)).alloc (.cells #[.int .i64 0,.string ⟨#[]⟩,.slice none 0 0] 41)=W0 at A0 kR kP ⊢
 obtain ⟨-,p0,p1,p2,-⟩:=aE kP.out
 have hz0:w.heap.size+1<W0.heap.size:=ai kR.out
 have SQ:Hid (∀ V:World,(∀ k,k<W0.heap.size→V.heap[k]?=W0.heap[k]?)→V.cell? ⟨w.heap.size,0,none⟩=some (.int .i64 rc)∧V.cell? ⟨w.heap.size,1,none⟩=some (.string rt)∧V.cell? ⟨w.heap.size,2,none⟩=some (.slice (some ⟨g,0,none⟩) n c)):=fun V hV=>by
  have e:=World.cell?_of_block (a:=⟨w.heap.size,0,none⟩) (hV w.heap.size (by omega))
  have e1:=World.cell?_of_block (a:=⟨w.heap.size,1,none⟩) (hV w.heap.size (by omega))
  have e2:=World.cell?_of_block (a:=⟨w.heap.size,2,none⟩) (hV w.heap.size (by omega))
  exact ⟨e.trans p0,e1.trans p1,e2.trans p2⟩
 have HS:=ae (SQ.out W0.drew (fun k hk=>rfl))
 refine aN (fun V=>V.cell? ⟨w.heap.size,0,none⟩=some (.int .i64 rc)∧V.cell? ⟨w.heap.size,1,none⟩=some (.string rt)∧V.cell? ⟨w.heap.size,2,none⟩=some (.slice (some ⟨g,0,none⟩) n c)) 9 (by as_aux_lemma=>kernel_rfl) ?_
 clear p0 p1 p2
 iterate 4
  refine aF 0 (v:=?_) rfl rfl (by as_aux_lemma=>kernel_rfl) (fun _ _ _ h=>h) rfl ?_ HS.out ?_
  rotate_left
  ·(intro wz hSw;obtain ⟨s0,s1,s2⟩:=hSw;go_simp)
   (try with_reducible rfl)
  (try simp only [Act.put,nzL])
 iterate 2
  refine aF 5 (v:=?_) rfl rfl (by as_aux_lemma=>kernel_rfl) (fun _ _ _ h=>h) rfl ?_ HS.out ?_
  rotate_left
  ·(intro wz hSw;obtain ⟨s0,s1,s2⟩:=hSw;go_simp)
   (try with_reducible rfl)
  (try simp only [Act.put,nzL])
 refine aj (i:=4) rfl (by as_aux_lemma=>kernel_rfl) (fun K hK=>?_)
 go_simp
 have AB:=ae (((Below.refl W0.heap.size W0).drew).alloc lr (.cells #[] 9))
 refine hK.out _ _ (fun _=>SQ.out _ (fun k hk=>AB.out.block k hk)) ?_
 clear hK K
 (try simp only [Act.put,nzL])
 have AC0:Hid (Below W0.heap.size W0 (W0.alloc (.cells #[] 9)).drew):=((Below.refl W0.heap.size W0).alloc lr _).drew
 have LO0:Hid ((W0.alloc (.cells #[] 9)).drew.ownsRow W0.heap.size 9 1 (.slice (some ⟨W0.heap.size,0,none⟩) 0 0) 0 []):=own_below (gK W0 9 1) br.drew lr 
 have RO:Hid ((W0.alloc (.cells #[] 9)).drew.ownsRow B 9 1 (.slice (some ⟨g,0,none⟩) n c) n (aU ch)):=own_below (own_below HO.out A0.out lr) AC0.out lr 
 refine aj (i:=7) rfl (by as_aux_lemma=>kernel_rfl) (fun K hK=>?_)
 refine aK (w:=(W0.alloc (.cells #[] 9)).drew) rfl (.tmp 7) (.tmp 9) 39 rfl W0.heap.size 9 i1 (.string ⟨#[]⟩) 1 16 Tryz.underlying39 hi1 hy0 hy1 hy2 rfl (by decide) (.slice (some ⟨W0.heap.size,0,none⟩) 0 0) 0 [] (by simp [Act.eval]) LO0.out ⟨g,0,none⟩ n c (aU ch) (by simp [Act.eval]) (by rw [aU,List.length_map,← HN.out,Nat.mul_one]) (fun q u h=>RO.out.cells (g:=g) rfl q u h) (fun u hu=>by rw [aU,List.mem_map] at hu;obtain ⟨t,_,rfl⟩:=hu;rfl) (by unfold maxLen;omega) (by omega) AC0.out.size ?_
 intro v1 W1 hown hgrow hat
 have AC:Hid (Below W0.heap.size W0 W1):=AC0.out.trans (Below.grown (Below.refl W0.heap.size _) hgrow AC0.out.size (fun j e=>(LO0.out.lt j e).1))
 rw [Nat.zero_add,List.nil_append] at hown
 have LO:=ae hown
 obtain ⟨a1,c1,rfl⟩:=dy hown
 clear hown hgrow hat AC0 LO0 RO AB
 refine hK.out _ _ (fun _=>SQ.out _ (fun k hk=>AC.out.block k hk)) ?_
 clear hK K
 (try simp only [Act.put,nzL])
 have HS1:=ae (SQ.out W1 (fun k hk=>AC.out.block k hk))
 clear HS
 have HS:=ae HS1.out
 refine aF 8 (v:=?_) rfl rfl (by as_aux_lemma=>kernel_rfl) (fun _ _ _ h=>h) rfl ?_ HS.out ?_
 rotate_left
 ·(intro wz hSw;obtain ⟨s0,s1,s2⟩:=hSw;go_simp)
  (try with_reducible rfl)
 (try simp only [Act.put,nzL])
 obtain ⟨rl,r0,r1,r2,rf⟩:=aE ((AC.out.block _ hz0).trans kR.out)
 have rf0:=rf 0
 have rf1:=rf 1
 have rf2:=rf 2
 clear rf
 refine aj (i:=9) rfl (by as_aux_lemma=>kernel_rfl) (fun K hK=>?_)
 go_simp
 refine hK.out _ _ (fun h=>absurd rfl h) ?_
 clear hK K HS
 (try simp only [Act.put])
 refine bc (by as_aux_lemma=>kernel_rfl) ?_ _
 go_wp2_with fail
 refine bodyPost_ret (v:=.agg #[.int .i64 rc,.string rt,.slice a1 n c1]) (by simp [results,Tryz.results88,go_sem,r0,r1,r2]) rfl ⟨_,rfl,⟨a1,c1,by rw [← HN.out],?_⟩,?_⟩
 ·show World.ownsRow _ _ _ _ _ ch.length _
  rw [← HN.out]
  refine aT (ar (ar (ar LO.out (fun e=>?_) _ _) (fun e=>?_) _ _) (fun e=>?_) _ _) A0.out.size
  all_goals
   have:=(af LO.out _ e).1
   omega
 ·exact (((A0.out.trans (AC.out.mono A0.out.size)).setCell (p:=⟨w.heap.size+1,0,none⟩) (Nat.le_succ _) _).setCell (p:=⟨w.heap.size+1,1,none⟩) (Nat.le_succ _) _).setCell (p:=⟨w.heap.size+1,2,none⟩) (Nat.le_succ _) _
theorem rK (w:World)(r:ResL)(a:Option Addr)(c B:Nat)(ho:w.ownsRow B 9 1 (.slice a r.chain.length c) r.chain.length (aU r.chain))(hlen:r.chain.length≤1000) :
  Calls Tryz.prog 88 #[.agg #[.int .i64 r.code,.string r.text,.slice a r.chain.length c]] w fun e w'=>∃ rv,e=.returned rv∧fy w w' r rv∧Below w.heap.size w w':=by
 obtain ⟨rc,rt,ch⟩:=r
 simp only at ho hlen ⊢
 obtain ⟨h0,⟨hv,hn⟩ | ⟨g,cap,cur,hv,h2⟩⟩:=id ho
 ·have hch:ch=[]:=List.length_eq_zero_iff.1 hn
  subst hch
  cases hv
  exact vb w rc rt
 ·have e1:=hv
  simp only [Value.slice.injEq] at e1
  obtain ⟨rfl,-,rfl⟩:=e1
  exact tD w rc rt ch g ch.length c B rfl hlen ho
theorem rL {S:Spc}{lies:List Ent→ByteArray→Out Ent}{t K:Nat}(hl:∀ made nm c,lies made nm=.inr (.inl c)→c.length≤K):∀ k made ys ls c,bD S lies t k made ys ls=.inr (.inl c)→c.length≤K:=by
 intro k
 induction k with
 | zero=>intro made ys ls c h;cases h
 | succ k ih =>
  intro made ys ls c h
  rw [bD] at h
  split at h
  ·cases h
  ·split at h
   ·exact ih _ _ _ _ h
   ·split at h
    ·exact ih _ _ _ _ h
    ·rename_i c' he
     cases h
     exact hl _ _ _ he
    ·cases h
theorem jy (S:Spc):∀ n making made nm c,aG S n making made nm=.inr (.inl c)→c.length≤making.length+n:=by
 intro n
 have key:∀ making made nm c (K:Nat) (tgt:Nat→Out Ent),making.length≤K→(∀ t c,tgt t=.inr (.inl c)→c.length≤K)→de S tgt making made nm=.inr (.inl c)→c.length≤K:=by
  intro making made nm c K tgt hK ht h
  unfold de at h
  split at h
  ·cases h
  ·split at h
   ·cases h
    rw [List.length_drop]
    omega
   ·unfold eA dL at h
    split at h
    ·cases h
    ·split at h
     ·exact ht _ _ h
     ·cases h
 induction n with
 | zero =>
  intro making made nm c h
  rw [aG] at h
  exact key _ _ _ _ _ _ (by omega) (fun t c h=>by cases h) h
 | succ n ih =>
  intro making made nm c h
  rw [aG] at h
  refine key _ _ _ _ _ _ (by omega) (fun t c h=>?_) h
  rcases hr:bD S (aG S n (making++[nm])) t 201 made [] [] with ⟨made1,x⟩ | c1 | d
  ·rw [hr] at h;cases h
  ·rw [hr] at h
   cases h
   refine rL (fun made nm2 c2 h2=>?_) _ _ _ _ _ hr
   have:=ih _ _ _ _ h2
   rw [List.length_append,List.length_singleton] at this
   omega
  ·rw [hr] at h;cases h
section
variable {S:Spc}{a0 a1:Option Addr}{c0 c1:Nat}
theorem mL (w:World)(nm:ByteArray)(hv0:SlSource w a0 S.n0 S.f0)(hv1:SlTarget w a1 S.n1 S.f1)(hn0:S.n0≤1048576)(hn1:S.n1≤1048576)(hfit:∀ i,i<S.n1→bh (S.f1 i))(hs:∀ i,i<S.n1→∀ j,j<(S.f1 i).actN→((S.f1 i).act j).s.size≤maxLen)(hbad:¬ (bX S.n0 S.f0 S.n1 S.f1=0∧au nm=true)) :
  Calls Tryz.prog 21 #[.agg #[.slice a0 S.n0 c0,.slice a1 S.n1 c1],.string nm] w fun e w'=>∃ rv,e=.returned rv∧fy w w' ⟨9,⟨#[]⟩,[]⟩ rv∧Below w.heap.size w w':=by
 have A0:=ae (((Below.refl w.heap.size w).alloc lr (.cells #[.slice a0 S.n0 c0,.slice a1 S.n1 c1] 26)).alloc (by simp) (.cells #[.int .i64 0,.string ⟨#[]⟩,.slice none 0 0] 41))
 have HC:=ae (iD a0 S.n0 c0 S.f0 a1 S.n1 c1 S.f1 ((w.alloc (.cells #[.slice a0 S.n0 c0,.slice a1 S.n1 c1] 26)).alloc (.cells #[.int .i64 0,.string ⟨#[]⟩,.slice none 0 0] 41)) (by omega) (by omega) (hv0.below A0.out lr) (hv1.below A0.out lr) hfit hs)
 have kR:Hid (((w.alloc (.cells #[.slice a0 S.n0 c0,.slice a1 S.n1 c1] 26)).alloc (.cells #[.int .i64 0,.string ⟨#[]⟩,.slice none 0 0] 41)).heap[w.heap.size+1]?=some (.cells #[.int .i64 0,.string ⟨#[]⟩,.slice none 0 0] 41 (0,0))):=by
  have h2:=heap_alloc_new (w.alloc (.cells #[.slice a0 S.n0 c0,.slice a1 S.n1 c1] 26)) (.cells #[.int .i64 0,.string ⟨#[]⟩,.slice none 0 0] 41)
  rw [show (w.alloc (.cells #[.slice a0 S.n0 c0,.slice a1 S.n1 c1] 26)).heap.size=w.heap.size+1 by simp] at h2
  exact h2
 obtain ⟨ck,hck⟩:∃ ck,ck=bX S.n0 S.f0 S.n1 S.f1:=⟨_,rfl⟩
 rw [← hck] at HC hbad
 have HBD:=ae hbad
 clear hv0 hv1 hfit hs hck hbad hn0 hn1
 by_cases hc:ck=0
 ·have hnk:Hid (au nm=false):=by
   cases h:au nm with
   | false=>rfl
   | true=>exact absurd ⟨hc,h⟩ HBD.out
  subst hc
  go_enter Tryz.func21,Tryz.ntmps21
  go_wp2_with fail
  generalize (w.alloc (.cells #[.slice a0 S.n0 c0,.slice a1 S.n1 c1] 26)).alloc (.cells #[.int .i64 0,.string ⟨#[]⟩,.slice none 0 0] 41)=W0 at A0 HC kR ⊢
  refine HC.out.mono ?_
  clear HC
  rintro e w1 ⟨rfl,hB⟩
  have B1:=ae (A0.out.trans (hB.mono A0.out.size))
  have kR1:=ae ((hB.block _ (ai kR.out)).trans kR.out)
  clear hB
  go_wp2_with fail
  refine (bN nm w1).mono ?_
  rintro e w2 ⟨he,hB⟩
  rw [hnk.out] at he
  subst he
  have B2:=ae (B1.out.trans (hB.mono B1.out.size))
  obtain ⟨rl,r0,r1,r2,rf⟩:=aE ((hB.block _ (ai kR1.out)).trans kR1.out)
  have rf0:=rf 0
  have rf1:=rf 1
  have rf2:=rf 2
  clear rf hB
  go_wp2_with fail
  refine bodyPost_ret (v:=.agg #[.int .i64 9,.string ⟨#[]⟩,.slice none 0 0]) (by simp [results,Tryz.results21,go_sem,r0,r1,r2]) rfl ⟨_,rfl,eO _ _ _ _,?_⟩
  exact ((B2.out.setCell (p:=⟨w.heap.size+1,0,none⟩) (Nat.le_succ _) _).setCell (p:=⟨w.heap.size+1,1,none⟩) (Nat.le_succ _) _).setCell (p:=⟨w.heap.size+1,2,none⟩) (Nat.le_succ _) _
 ·go_enter Tryz.func21,Tryz.ntmps21
  go_wp2_with fail
  generalize (w.alloc (.cells #[.slice a0 S.n0 c0,.slice a1 S.n1 c1] 26)).alloc (.cells #[.int .i64 0,.string ⟨#[]⟩,.slice none 0 0] 41)=W0 at A0 HC kR ⊢
  refine HC.out.mono ?_
  clear HC
  rintro e w1 ⟨rfl,hB⟩
  have B2:=ae (A0.out.trans (hB.mono A0.out.size))
  obtain ⟨rl,r0,r1,r2,rf⟩:=aE ((hB.block _ (ai kR.out)).trans kR.out)
  have rf0:=rf 0
  have rf1:=rf 1
  have rf2:=rf 2
  clear rf hB
  go_wp2_with fail
  refine bodyPost_ret (v:=.agg #[.int .i64 9,.string ⟨#[]⟩,.slice none 0 0]) (by simp [results,Tryz.results21,go_sem,r0,r1,r2]) rfl ⟨_,rfl,eO _ _ _ _,?_⟩
  exact ((B2.out.setCell (p:=⟨w.heap.size+1,0,none⟩) (Nat.le_succ _) _).setCell (p:=⟨w.heap.size+1,1,none⟩) (Nat.le_succ _) _).setCell (p:=⟨w.heap.size+1,2,none⟩) (Nat.le_succ _) _
end
theorem rM {S:Spc}{w0 w':World}{hb:Nat}{s0 s1:Value}{nm:ByteArray}(h1:bX S.n0 S.f0 S.n1 S.f1=0)(h2:au nm=true)(h:pX w0 hb s0 s1 w' (aG S 60 [] [] nm)) :
  ∃ u0 u1 md or st a k d,ShBox w' hb u0 u1 md or st (bp S nm).2.code (bp S nm).2.text (.slice a (bp S nm).2.chain.length k) d∧w'.ownsRow w0.heap.size 9 1 (.slice a (bp S nm).2.chain.length k) (bp S nm).2.chain.length (aU (bp S nm).2.chain)∧(bp S nm).2.chain.length≤1000:=by
 unfold bp
 rw [if_pos ⟨h1,h2⟩]
 rcases hl:aG S 60 [] [] nm with ⟨made',x⟩ | c | d
 ·rw [hl] at h
  obtain ⟨L,md,or,st,hbx,-⟩:=h
  have hch:(bV x).chain=[]:=by unfold bV;split<;>rfl
  dsimp only
  rw [hch]
  refine ⟨s0,s1,md,or,st,none,0,false,?_,?_,?_⟩
  ·exact hbx
  ·exact ⟨rfl,.inl ⟨rfl,rfl⟩⟩
  ·exact Nat.zero_le _
 ·rw [hl] at h
  obtain ⟨a,k,u0,u1,md,or,st,hbx,ho⟩:=h
  have:=jy S 60 [] [] nm c hl
  exact ⟨u0,u1,md,or,st,a,k,true,hbx,ho,Nat.le_trans this (by simp)⟩
 ·rw [hl] at h
  obtain ⟨u0,u1,md,or,st,hbx,ho⟩:=h
  exact ⟨u0,u1,md,or,st,none,0,true,hbx,ho,Nat.zero_le _⟩
section
variable {S:Spc}{a0 a1:Option Addr}{c0 c1:Nat}
theorem oE (w:World)(nm:ByteArray)(hv0:SlSource w a0 S.n0 S.f0)(hv1:SlTarget w a1 S.n1 S.f1)(hn0:S.n0≤1048576)(hn1:S.n1≤1048576)(hfit:∀ i,i<S.n1→bh (S.f1 i))(hs:∀ i,i<S.n1→∀ j,j<(S.f1 i).actN→((S.f1 i).act j).s.size≤maxLen)(h1:bX S.n0 S.f0 S.n1 S.f1=0)(h2:au nm=true) :
  Calls Tryz.prog 21 #[.agg #[.slice a0 S.n0 c0,.slice a1 S.n1 c1],.string nm] w fun e w'=>∃ rv,e=.returned rv∧fy w w' (bp S nm).2 rv∧Below w.heap.size w w':=by
 have A0:=ae (((Below.refl w.heap.size w).alloc lr (.cells #[.slice a0 S.n0 c0,.slice a1 S.n1 c1] 26)).alloc (by simp) (.cells #[.int .i64 0,.string ⟨#[]⟩,.slice none 0 0] 41))
 have HC:=ae (iD a0 S.n0 c0 S.f0 a1 S.n1 c1 S.f1 ((w.alloc (.cells #[.slice a0 S.n0 c0,.slice a1 S.n1 c1] 26)).alloc (.cells #[.int .i64 0,.string ⟨#[]⟩,.slice none 0 0] 41)) (by omega) (by omega) (hv0.below A0.out lr) (hv1.below A0.out lr) hfit hs)
 have kR:Hid (((w.alloc (.cells #[.slice a0 S.n0 c0,.slice a1 S.n1 c1] 26)).alloc (.cells #[.int .i64 0,.string ⟨#[]⟩,.slice none 0 0] 41)).heap[w.heap.size+1]?=some (.cells #[.int .i64 0,.string ⟨#[]⟩,.slice none 0 0] 41 (0,0))):=by
  have h2:=heap_alloc_new (w.alloc (.cells #[.slice a0 S.n0 c0,.slice a1 S.n1 c1] 26)) (.cells #[.int .i64 0,.string ⟨#[]⟩,.slice none 0 0] 41)
  rw [show (w.alloc (.cells #[.slice a0 S.n0 c0,.slice a1 S.n1 c1] 26)).heap.size=w.heap.size+1 by simp] at h2
  exact h2
 have kS:Hid (((w.alloc (.cells #[.slice a0 S.n0 c0,.slice a1 S.n1 c1] 26)).alloc (.cells #[.int .i64 0,.string ⟨#[]⟩,.slice none 0 0] 41)).heap[w.heap.size]?=some (.cells #[.slice a0 S.n0 c0,.slice a1 S.n1 c1] 26 (0,0))):=by
  have h2:=heap_alloc_new w (.cells #[.slice a0 S.n0 c0,.slice a1 S.n1 c1] 26)
  exact (((Below.refl (w.heap.size+1) _).alloc (by simp) _).block w.heap.size (by omega)).trans h2
 have V0:=ae hv0
 have V1:=ae hv1
 have HOK:=ae (SpcOk.of h1)
 have H1:=ae h1
 have H2:=ae h2
 rw [h1] at HC
 obtain ⟨r,hr⟩:∃ r,r=(bp S nm).2:=⟨_,rfl⟩
 have HR:=ae hr
 rw [← hr]
 clear hv0 hv1 hfit hs hn0 hn1 h1 h2 hr
 go_enter Tryz.func21,Tryz.ntmps21
 go_wp2_with fail
 generalize (w.alloc (.cells #[.slice a0 S.n0 c0,.slice a1 S.n1 c1] 26)).alloc (.cells #[.int .i64 0,.string ⟨#[]⟩,.slice none 0 0] 41)=W0 at A0 HC kR kS ⊢
 refine HC.out.mono ?_
 clear HC
 rintro e w1 ⟨rfl,hB⟩
 have B1:=ae (A0.out.trans (hB.mono A0.out.size))
 have kR1:=ae ((hB.block _ (ai kR.out)).trans kR.out)
 have kS1:=ae ((hB.block _ (ai kS.out)).trans kS.out)
 clear hB
 go_wp2_with fail
 refine (bN nm w1).mono ?_
 rintro e w2 ⟨he,hB⟩
 rw [H2.out] at he
 subst he
 have B2:=ae (B1.out.trans (hB.mono B1.out.size))
 have kR2:=ae ((hB.block _ (ai kR1.out)).trans kR1.out)
 have kS2:=ae ((hB.block _ (ai kS1.out)).trans kS1.out)
 have hsl:w.heap.size<w2.heap.size:=ai kS2.out
 have q0:w2.cell? ⟨w.heap.size,0,none⟩=some (.slice a0 S.n0 c0):=by simp [World.cell?,kS2.out]
 have q1:w2.cell? ⟨w.heap.size,1,none⟩=some (.slice a1 S.n1 c1):=by simp [World.cell?,kS2.out]
 clear hB
 go_wp2_with fail
 refine (pq w2 ⟨V0.out.below B2.out lr,V1.out.below B2.out lr,HOK.out⟩ nm H2.out).mono ?_
 rintro e w3 ⟨hb,rfl,hcl,hB⟩
 obtain ⟨u0,u1,md,or,st,a,k,d,hbx,ho,hlen⟩:=rM H1.out H2.out hcl
 rw [← HR.out] at hbx ho hlen
 have B3:=ae (B2.out.trans (hB.mono B2.out.size))
 have kR3:=ae ((hB.block _ (ai kR2.out)).trans kR2.out)
 have HCP:=ae (rK w3 r a k _ ho hlen)
 clear q0 q1 hB hcl ho hlen
 obtain ⟨hbl,-,-,-,-,-,b5,b6,b7,-,-⟩:=hbx.facts
 have hw3:w.heap.size≤w3.heap.size:=B3.out.size
 go_wp2_with fail
 refine HCP.out.mono ?_
 rintro e w4 ⟨rv,rfl,⟨a4,c4,rfl,ho4⟩,hB⟩
 have B4:=ae (B3.out.trans (hB.mono B3.out.size))
 have O4:=ae ho4
 obtain ⟨rl,r0,r1,r2,rf⟩:=aE ((hB.block _ (ai kR3.out)).trans kR3.out)
 have rf0:=rf 0
 have rf1:=rf 1
 have rf2:=rf 2
 have hz3:w.heap.size+1<w3.heap.size:=ai kR3.out
 clear rf hB ho4 b5 b6 b7
 go_wp2_with fail
 refine bodyPost_ret (v:=.agg #[.int .i64 r.code,.string r.text,.slice a4 r.chain.length c4]) (by simp [results,Tryz.results21,go_sem,r0,r1,r2]) rfl ⟨_,rfl,⟨a4,c4,rfl,?_⟩,?_⟩
 ·refine aT (ar (ar (ar O4.out (fun e=>?_) _ _) (fun e=>?_) _ _) (fun e=>?_) _ _) hw3
  all_goals
   have:=(af O4.out _ e).1
   omega
 ·exact ((B4.out.setCell (p:=⟨w.heap.size+1,0,none⟩) (Nat.le_succ _) _).setCell (p:=⟨w.heap.size+1,1,none⟩) (Nat.le_succ _) _).setCell (p:=⟨w.heap.size+1,2,none⟩) (Nat.le_succ _) _
theorem mM (w:World)(nm:ByteArray)(hv0:SlSource w a0 S.n0 S.f0)(hv1:SlTarget w a1 S.n1 S.f1)(hn0:S.n0≤1048576)(hn1:S.n1≤1048576)(hfit:∀ i,i<S.n1→bh (S.f1 i))(hs:∀ i,i<S.n1→∀ j,j<(S.f1 i).actN→((S.f1 i).act j).s.size≤maxLen) :
  Calls Tryz.prog 21 #[.agg #[.slice a0 S.n0 c0,.slice a1 S.n1 c1],.string nm] w fun e w'=>∃ rv,e=.returned rv∧fy w w' (bp S nm).2 rv∧Below w.heap.size w w':=by
 by_cases h:bX S.n0 S.f0 S.n1 S.f1=0∧au nm=true
 ·exact oE w nm hv0 hv1 hn0 hn1 hfit hs h.1 h.2
 ·have e:(bp S nm).2=⟨9,⟨#[]⟩,[]⟩:=by unfold bp;rw [if_neg h]
  rw [e]
  exact mL w nm hv0 hv1 hn0 hn1 hfit hs h
end
end Go.Proofs.YtkophfgkcijjkaaGreatDoor.Vp
namespace Go.Proofs.YtkophfgkcijjkaaGreatDoor.Vp
open RowKit
def btF (L:List ByteArray)(i:Nat):ByteArray:=L.getD i ⟨#[]⟩
def ChAt (w:World)(base hi:Nat)(p:Option Addr)(g:Nat)(L:List ByteArray):Prop:=L.length=0∨(p=some ⟨g,0,none⟩∧base≤g∧g<hi∧RowStr w g 0 L.length (btF L)∧∃ F,Cells w g 0 L.length F)
theorem ChAt.sl {w:World}{base hi g:Nat}{p:Option Addr}{L:List ByteArray}(h:ChAt w base hi p g L):SlStr w p L.length (btF L):=by
 rcases h with h | ⟨h1,_,_,h3,_⟩
 ·exact .inl h
 ·exact .inr ⟨g,0,h1,h3⟩
theorem ChAt.room {w:World}{base hi g:Nat}{p:Option Addr}{L:List ByteArray}(h:ChAt w base hi p g L):Room w p L.length g L.length:=by
 rcases h with h | ⟨h1,_,_,_,h4⟩
 ·exact .inl h
 ·exact .inr ⟨h1,h4⟩
theorem ChAt.below {w w':World}{base hi g:Nat}{p:Option Addr}{L:List ByteArray}(h:ChAt w base hi p g L)(hb:Below w.heap.size w w'):ChAt w' base hi p g L:=by
 rcases h with h | ⟨h1,h2,h3,h4,F,h5⟩
 ·exact .inl h
 ·exact .inr ⟨h1,h2,h3,h4.below hb lr,F,h5.below hb h5.1⟩
theorem ChAt.touch {w w':World}{base hi g:Nat}{p:Option Addr}{L:List ByteArray}{P:Nat→Prop}(h:ChAt w base hi p g L)(hT:Touch P w w')(hP:∀ x,P x→x<base∨hi≤x):ChAt w' base hi p g L:=by
 rcases h with h | ⟨h1,h2,h3,h4,F,h5⟩
 ·exact .inl h
 ·have hg:¬ P g:=fun hp=>by have:=hP g hp;omega
  exact .inr ⟨h1,h2,h3,⟨ll h4.1 hT.size,fun i hi=>(hT.cell (p:=⟨g,0+i,none⟩) h4.1 hg).trans (h4.2 i hi)⟩,F,h5.touch hT hg⟩
theorem ChAt.ge {w:World}{base hi g:Nat}{p:Option Addr}{L:List ByteArray}(h:ChAt w base hi p g L)(hz:L.length≠0):base≤g∧g<hi:=⟨(h.resolve_left hz).2.1,(h.resolve_left hz).2.2.1⟩
theorem pr (S:Spc)(nm:ByteArray):(bp S nm).2.chain.length≤60:=by
 unfold bp
 split
 ·have h:=jy S 60 [] [] nm
  split
  ·unfold bV
   split<;>simp
  ·rename_i c e
   have:=h c e
   simpa using this
  ·simp
 ·simp
structure Three (w:World)(b:Nat)(v0 v1 v2:Value):Prop where
 lt:b<w.heap.size
 c0:w.cell? ⟨b,0,none⟩=some v0
 c1:w.cell? ⟨b,1,none⟩=some v1
 c2:w.cell? ⟨b,2,none⟩=some v2
theorem Three.block {w w':World}{b:Nat}{v0 v1 v2:Value}(h:Three w b v0 v1 v2)(hz:w.heap.size≤w'.heap.size)(hb:w'.heap[b]?=w.heap[b]?):Three w' b v0 v1 v2 :=
 ⟨ll h.lt hz,(World.cell?_of_block (a:=⟨b,0,none⟩) hb).trans h.c0,(World.cell?_of_block (a:=⟨b,1,none⟩) hb).trans h.c1,(World.cell?_of_block (a:=⟨b,2,none⟩) hb).trans h.c2⟩
theorem Three.below {w w':World}{b:Nat}{v0 v1 v2:Value}(h:Three w b v0 v1 v2)(hb:Below w.heap.size w w'):Three w' b v0 v1 v2:=h.block hb.size (hb.block b h.lt)
theorem Three.touch {w w':World}{b:Nat}{v0 v1 v2:Value}{P:Nat→Prop}(h:Three w b v0 v1 v2)(ht:Touch P w w')(hb:¬ P b):Three w' b v0 v1 v2:=h.block ht.size (ht.block b h.lt hb)
end Go.Proofs.YtkophfgkcijjkaaGreatDoor.Vp
