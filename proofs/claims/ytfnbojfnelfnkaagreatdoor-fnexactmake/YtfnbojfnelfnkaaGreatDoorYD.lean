import Derived.Test.YtfnbojfnelfnkaaGreatDoorYC
import Derived.Test.YtfnbojfnelfnkaaGreatDoorZA
set_option maxRecDepth 1000000
set_option maxHeartbeats 8000000
namespace Go.Proofs.YtfnbojfnelfnkaaGreatDoor.Vp
open Go.RowKit Go.Proofs.YtfnbojfnelfnkaaGreatDoor.Ca
theorem own_sliceM {w:World}{base size n:Nat}{e:TypeId}{v:Value}{xs:List Value}(h:w.ownsRow base e size v n xs):∃ a cap,v=.slice a n cap:=by
 obtain ⟨_,⟨rfl,rfl⟩ | ⟨g,cap,cur,rfl,_⟩⟩:=h
 ·exact ⟨none,0,rfl⟩
 ·exact ⟨_,_,rfl⟩
theorem five_at (w:World)(v0 v1 v2 v3 v4:Value)(t:TypeId):∀ j u,[v0,v1,v2,v3,v4][j]?=some u→(w.alloc (.cells #[v0,v1,v2,v3,v4] t)).cell? ((⟨w.heap.size,0,none⟩:Addr).add j)=some u:=by
 intro j u h
 rw [addr_add]
 have hj:j<5:=by
  rcases Nat.lt_or_ge j 5 with h' | h'
  ·exact h'
  ·rw [List.getElem?_eq_none (by simp;omega)] at h;cases h
 rcases (show j=0∨j=1∨j=2∨j=3∨j=4 by omega) with rfl | rfl | rfl | rfl | rfl
 all_goals
  simp at h
  subst h
  simp
section
variable {w0:World}{S:Spc}{a0 a1:Option Addr}{c0 c1 mb mp:Nat}{mk md:Value}{making:List ByteArray}{made:List Ent}{G:ByteArray→Nat}{V:ByteArray→Value}
def RepSt (w0:World)(S:Spc)(mb mp:Nat)(s0 s1:Value)(w w':World)(making:List ByteArray)(made:List Ent)(G:ByteArray→Nat)(V:ByteArray→Value)(mk md:Value)(eb tg:Nat)(nm:ByteArray)(ls:List Lk)(v v':Value):Prop :=
 MI w0 S mb mp s0 s1 w' making making made G V mk md∧EU w0 S w' eb nm tg G ls v' made V∧KX w0.heap.size (fun i=>i=eb∨v.ownBlock=some i) w w'∧∀ k,v'.ownBlock=some k→v.ownBlock=some k∨w.heap.size≤k
theorem RepSt.set {w W:World}{s0 s1:Value}{eb tg rb:Nat}{nm:ByteArray}{ls:List Lk}{v v':Value}{cs:Array Value}{t:TypeId}(h:RepSt w0 S mb mp s0 s1 w W making made G V mk md eb tg nm ls v v')(hb:W.heap[rb]?=some (.cells cs t (0,0)))(ht:offT t)(hB:w0.heap.size≤w.heap.size)(hrb:w.heap.size≤rb)(j:Nat)(u:Value) :
  RepSt w0 S mb mp s0 s1 w (W.setCell ⟨rb,j,none⟩ u) making made G V mk md eb tg nm ls v v'∧(W.setCell ⟨rb,j,none⟩ u).heap[rb]?=some (.cells (cs.setIfInBounds j u) t (0,0)) :=
 ⟨⟨h.1.setOff hb ht (Nat.le_trans hB hrb) j u,h.2.1.setOff hb ht j u,h.2.2.1.trans (KX.setCell (X:=fun i=>i=rb) W (Nat.le_trans hB hrb) (Or.inl rfl) u) (fun i hi e=>by have e2:i=rb:=e;omega),h.2.2.2⟩,heap_setCell_at hb u⟩
theorem three_facts {w:World}{b:Nat}{v0 v1 v2:Value}{t:TypeId}(h:w.heap[b]?=some (.cells #[v0,v1,v2] t (0,0))):b<w.heap.size∧w.cell? ⟨b,0,none⟩=some v0∧w.cell? ⟨b,1,none⟩=some v1∧w.cell? ⟨b,2,none⟩=some v2∧∀ j,w.frozen? ⟨b,j,none⟩=false:=by
 refine ⟨heap_lt h,?_,?_,?_,fun j=>?_⟩
 all_goals simp [World.cell?,World.frozen?,h]
theorem reply_has (C:Ctx w0 S a0 c0 a1 c1)(w:World)(eb tg:Nat)(nm:ByteArray)(ls:List Lk)(v:Value)(T:Turn)(h:MI w0 S mb mp (.slice a0 S.n0 c0) (.slice a1 S.n1 c1) w making making made G V mk md)(hu:EU w0 S w eb nm tg G ls v made V)(hls:ls.length≤200)(hask:T.ask=false) :
  Calls Tryz.prog 172 #[.pointer (some ⟨mb,0,none⟩),.pointer (some ⟨eb,0,none⟩),T.v] w fun e w'=>e=.returned (.agg #[.bool (hasS S T.name),.int .i64 0,.string ⟨#[]⟩])∧∃ v',RepSt w0 S mb mp (.slice a0 S.n0 c0) (.slice a1 S.n1 c1) w w' making made G V mk md eb tg nm (ls++[⟨T.name,false,hasS S T.name⟩]) v v':=by
 obtain ⟨i1,hi,hy0,hy1,hy2⟩:=infoM2 infoTie
 obtain ⟨av,cv,rfl⟩:=own_sliceM hu.row
 obtain ⟨over,code,text,ask,name,steps⟩:=T
 simp only at hask
 subst hask
 have A0:=hide (((Below.refl w.heap.size w).alloc lr (.cells #[.bool over,.int .i64 code,.string text,.bool false,.string name,.int .i64 steps] 208)).alloc (by simp) (.cells #[.bool false,.int .i64 0,.string ⟨#[]⟩] 211))
 have kt3:((w.alloc (.cells #[.bool over,.int .i64 code,.string text,.bool false,.string name,.int .i64 steps] 208)).alloc (.cells #[.bool false,.int .i64 0,.string ⟨#[]⟩] 211)).cell? ⟨w.heap.size,3,none⟩=some (.bool false):=by simp [go_sem]
 have kt4:((w.alloc (.cells #[.bool over,.int .i64 code,.string text,.bool false,.string name,.int .i64 steps] 208)).alloc (.cells #[.bool false,.int .i64 0,.string ⟨#[]⟩] 211)).cell? ⟨w.heap.size,4,none⟩=some (.string name):=by simp [go_sem]
 have hz0:((w.alloc (.cells #[.bool over,.int .i64 code,.string text,.bool false,.string name,.int .i64 steps] 208)).alloc (.cells #[.bool false,.int .i64 0,.string ⟨#[]⟩] 211)).heap.size=w.heap.size+2:=by simp
 have kr:Hid (((w.alloc (.cells #[.bool over,.int .i64 code,.string text,.bool false,.string name,.int .i64 steps] 208)).alloc (.cells #[.bool false,.int .i64 0,.string ⟨#[]⟩] 211)).heap[w.heap.size+1]?=some (.cells #[.bool false,.int .i64 0,.string ⟨#[]⟩] 211 (0,0))):=by
  have h2:=heap_alloc_new (w.alloc (.cells #[.bool over,.int .i64 code,.string text,.bool false,.string name,.int .i64 steps] 208)) (.cells #[.bool false,.int .i64 0,.string ⟨#[]⟩] 211)
  rw [show (w.alloc (.cells #[.bool over,.int .i64 code,.string text,.bool false,.string name,.int .i64 steps] 208)).heap.size=w.heap.size+1 by simp] at h2
  exact h2
 have M0:=hide (h.below A0.out lr)
 have U0:=hide (hu.below A0.out lr)
 have CC:=hide C
 have hB0:w0.heap.size≤w.heap.size:=h.lt
 have heb0:eb<w.heap.size:=by obtain ⟨⟨aa,ca,hbl,ha⟩,-⟩:=hu;exact heap_lt hbl
 have TN2:Hid (some (w.heap.size+1)≠(Value.slice av ls.length cv).ownBlock):=fun e=>by have:=(own_cellsM hu.row _ e.symm).2.1;omega
 have TN:Hid (some w.heap.size≠(Value.slice av ls.length cv).ownBlock):=fun e=>by have:=(own_cellsM hu.row _ e.symm).2.1;omega
 clear h hu C
 show Calls Tryz.prog 172 #[.pointer (some ⟨mb,0,none⟩),.pointer (some ⟨eb,0,none⟩),.agg #[.bool over,.int .i64 code,.string text,.bool false,.string name,.int .i64 steps]] w _
 obtain ⟨hb,hhb⟩:∃ hb,hb=hasS S name:=⟨_,rfl⟩
 have HHB:=hide hhb
 rw [← hhb]
 clear hhb
 go_enter Tryz.func172,Tryz.ntmps172
 go_wp2_with fail
 clear kt3
 generalize (w.alloc (.cells #[.bool over,.int .i64 code,.string text,.bool false,.string name,.int .i64 steps] 208)).alloc (.cells #[.bool false,.int .i64 0,.string ⟨#[]⟩] 211)=W0 at A0 kt4 hz0 kr M0 U0 ⊢
 obtain ⟨hml,m0,m1,-⟩:=M0.out.box.facts
 refine wp_region_held_drew (S:=fun V=>V.cell? ⟨mb,0,none⟩=some (.slice a0 S.n0 c0)∧V.cell? ⟨mb,1,none⟩=some (.slice a1 S.n1 c1)∧V.cell? ⟨w.heap.size,4,none⟩=some (.string name)) (by as_aux_lemma=>kernel_rfl) ⟨m0,m1,kt4⟩ (fun hS=>?_)
 have HS:=hide hS
 clear hS
 iterate 3
  refine anyS_nx 0 (v:=?_) rfl rfl (by as_aux_lemma=>kernel_rfl) (fun _ _ _ h=>h) rfl ?_ HS.out ?_
  rotate_left
  ·(intro wz hSw;obtain ⟨s0,s1,s2⟩:=hSw;go_simp)
   (try with_reducible rfl)
  (try simp only [Act.put,List.setIfInBounds_toArray,List.set_cons_zero,List.set_cons_succ])
 refine anyS_nx 4 (v:=?_) rfl rfl (by as_aux_lemma=>kernel_rfl) (fun _ _ _ h=>h) rfl ?_ HS.out ?_
 rotate_left
 ·(intro wz hSw;obtain ⟨s0,s1,s2⟩:=hSw;go_simp)
  (try with_reducible rfl)
 (try simp only [Act.put,List.setIfInBounds_toArray,List.set_cons_zero,List.set_cons_succ])
 refine anyS_nx 3 (v:=?_) rfl rfl (by as_aux_lemma=>kernel_rfl) (fun _ _ _ h=>h) rfl ?_ HS.out ?_
 rotate_left
 ·(intro wz hSw;obtain ⟨s0,s1,s2⟩:=hSw;go_simp)
  (try with_reducible rfl)
 (try simp only [Act.put,List.setIfInBounds_toArray,List.set_cons_zero,List.set_cons_succ])
 refine anyS_nx 5 (v:=?_) rfl rfl (by as_aux_lemma=>kernel_rfl) (fun _ _ _ h=>h) rfl ?_ HS.out ?_
 rotate_left
 ·(intro wz hSw;obtain ⟨s0,s1,s2⟩:=hSw;go_simp)
  (try with_reducible rfl)
 (try simp only [Act.put,List.setIfInBounds_toArray,List.set_cons_zero,List.set_cons_succ])
 refine anyS_one (i:=6) rfl (by as_aux_lemma=>kernel_rfl) (fun K hK=>?_)
 go_simp
 go_at_call 84
 have hWW:Hid (Below w0.heap.size w0 W0.drew):=M0.out.bel.drew
 refine (has_any a0 S.n0 c0 S.f0 a1 S.n1 c1 S.f1 name _ (by have:=CC.out.ok.small;omega) (by have:=CC.out.ok.small;omega) (CC.out.src.below hWW.out lr) (CC.out.tgt.below hWW.out lr) CC.out.ok.asc0 CC.out.ok.asc1).mono ?_
 rintro e w1 ⟨he,hB⟩
 rw [show (isIn (nm0 S.f0) S.n0 name || isIn (nm1 S.f1) S.n1 name)=hb from HHB.out.symm] at he
 subst he
 have B1:Hid (Below W0.heap.size W0 w1):=⟨hB.os,hB.tape,hB.output,hB.size,hB.block⟩
 clear hB hWW
 have hw1:w.heap.size<W0.heap.size:=by omega
 refine hK.out _ _ ⟨(B1.out.cell (p:=⟨mb,0,none⟩) hml).trans m0,(B1.out.cell (p:=⟨mb,1,none⟩) hml).trans m1,(B1.out.cell (p:=⟨w.heap.size,4,none⟩) hw1).trans kt4⟩ ?_
 clear hK K HS
 have HS:Hid (w1.cell? ⟨mb,0,none⟩=some (.slice a0 S.n0 c0)∧w1.cell? ⟨mb,1,none⟩=some (.slice a1 S.n1 c1)∧w1.cell? ⟨w.heap.size,4,none⟩=some (.string name)):=⟨(B1.out.cell (p:=⟨mb,0,none⟩) hml).trans m0,(B1.out.cell (p:=⟨mb,1,none⟩) hml).trans m1,(B1.out.cell (p:=⟨w.heap.size,4,none⟩) hw1).trans kt4⟩
 (try simp only [Act.put,List.setIfInBounds_toArray,List.set_cons_zero,List.set_cons_succ])
 refine anyS_nx 7 (v:=?_) rfl rfl (by as_aux_lemma=>kernel_rfl) (fun _ _ _ h=>h) rfl ?_ HS.out ?_
 rotate_left
 ·(intro wz hSw;obtain ⟨s0,s1,s2⟩:=hSw;go_simp)
  (try with_reducible rfl)
 (try simp only [Act.put,List.setIfInBounds_toArray,List.set_cons_zero,List.set_cons_succ])
 refine wpAnyH_done (by as_aux_lemma=>kernel_rfl) ?_ _
 have A1:=hide (A0.out.trans (B1.out.mono A0.out.size))
 have KW:=hide (KX.of_below (X:=XN) A1.out lr hB0)
 have M1:=hide (M0.out.below B1.out lr)
 have U1:=hide (U0.out.below B1.out lr)
 have n4:=HS.out.2.2
 have kr1:Hid (w1.heap[w.heap.size+1]?=some (.cells #[.bool false,.int .i64 0,.string ⟨#[]⟩] 211 (0,0))):=(B1.out.block _ (by omega)).trans kr.out
 have hz1:w.heap.size+2≤w1.heap.size:=by have:=B1.out.size;omega
 clear HS m0 m1 kt4 M0 U0 kr A0
 go_wp2_with fail
 obtain ⟨⟨aa,ca,hbl,ha⟩,-⟩:=U1.out
 obtain ⟨hel,-,-,-,-,-,-,e6,-,ef⟩:=hbl.facts
 have ef6:=ef 6
 have hebB:w0.heap.size≤eb:=U1.out.ge
 clear hbl ha ef
 have SQ:Hid (∀ V:World,(∀ k,k<w1.heap.size→some k≠(Value.slice av ls.length cv).ownBlock→V.heap[k]?=w1.heap[k]?)→V.cell? ⟨eb,6,none⟩=some (.slice av ls.length cv)∧V.cell? ⟨w.heap.size,4,none⟩=some (.string name)):=fun V hV=>by
  have hne:some eb≠(Value.slice av ls.length cv).ownBlock:=fun e=>by
   obtain ⟨⟨aa,ca,hbl,ha⟩,-⟩:=U1.out
   obtain ⟨_,_,cs,hc⟩:=own_cellsM U1.out.row eb e.symm
   exact absurd (two_types hbl hc) (by decide)
  have hne2:some w.heap.size≠(Value.slice av ls.length cv).ownBlock:=TN.out
  exact ⟨(World.cell?_of_block (a:=⟨eb,6,none⟩) (hV eb hel hne)).trans e6,(World.cell?_of_block (a:=⟨w.heap.size,4,none⟩) (hV w.heap.size (by omega) hne2)).trans n4⟩
 have HS:=hide (SQ.out w1.drew (fun k hk _=>rfl))
 have UD:Hid (EU w0 S w1.drew eb nm tg G ls (.slice av ls.length cv) made V):=U1.out.below (Below.refl _ _).drew lr 
 have MD:Hid (MI w0 S mb mp (.slice a0 S.n0 c0) (.slice a1 S.n1 c1) w1.drew making making made G V mk md):=M1.out.below (Below.refl _ _).drew lr 
 refine wp_region_N (fun V=>V.cell? ⟨eb,6,none⟩=some (.slice av ls.length cv)∧V.cell? ⟨w.heap.size,4,none⟩=some (.string name)) 14 (by as_aux_lemma=>kernel_rfl) ?_
 clear e6 n4
 iterate 4
  refine anyN_nx 0 (v:=?_) rfl rfl (by as_aux_lemma=>kernel_rfl) (fun _ _ _ h=>h) rfl ?_ HS.out ?_
  rotate_left
  ·(intro wz hSw;obtain ⟨s0,s1⟩:=hSw;go_simp)
   (try with_reducible rfl)
  (try simp only [Act.put,List.setIfInBounds_toArray,List.set_cons_zero,List.set_cons_succ])
 refine anyN_nx 5 (v:=?_) rfl rfl (by as_aux_lemma=>kernel_rfl) (fun _ _ _ h=>h) rfl ?_ HS.out ?_
 rotate_left
 ·(intro wz hSw;obtain ⟨s0,s1⟩:=hSw;go_simp)
  (try with_reducible rfl)
 (try simp only [Act.put,List.setIfInBounds_toArray,List.set_cons_zero,List.set_cons_succ])
 refine anyN_nx 4 (v:=?_) rfl rfl (by as_aux_lemma=>kernel_rfl) (fun _ _ _ h=>h) rfl ?_ HS.out ?_
 rotate_left
 ·(intro wz hSw;obtain ⟨s0,s1⟩:=hSw;go_simp)
  (try with_reducible rfl)
 (try simp only [Act.put,List.setIfInBounds_toArray,List.set_cons_zero,List.set_cons_succ])
 iterate 4
  refine anyN_nx 6 (v:=?_) rfl rfl (by as_aux_lemma=>kernel_rfl) (fun _ _ _ h=>h) rfl ?_ HS.out ?_
  rotate_left
  ·(intro wz hSw;obtain ⟨s0,s1⟩:=hSw;go_simp)
   (try with_reducible rfl)
  (try simp only [Act.put,List.setIfInBounds_toArray,List.set_cons_zero,List.set_cons_succ])
 refine anyN_one (i:=10) rfl (by as_aux_lemma=>kernel_rfl) (fun K hK=>?_)
 go_simp
 have AB:=hide ((Below.refl w1.heap.size w1.drew).alloc lr (.cells #[.string name,.bool false,.bool hb,.int .i64 0,.pointer none] 154))
 have UA:=hide (UD.out.below AB.out lr)
 have MA:=hide (MD.out.below AB.out lr)
 refine hK.out _ _ (fun _=>SQ.out _ (fun k hk _=>AB.out.block k hk)) ?_
 clear hK K
 (try simp only [Act.put,List.setIfInBounds_toArray,List.set_cons_zero,List.set_cons_succ])
 refine anyN_one (i:=11) rfl (by as_aux_lemma=>kernel_rfl) (fun K hK=>?_)
 refine step_append_own_at rfl (.tmp 23) (.tmp 29) 87 rfl w0.heap.size 154 i1 (.agg #[.string ⟨#[]⟩,.bool false,.bool false,.int .i64 0,.pointer none]) 5 40 Tryz.underlying87 hi hy0 hy1 hy2 rfl (by decide) (.slice av ls.length cv) ls.length (tiesV G ls) (by simp [Act.eval]) UA.out.row ⟨w1.heap.size,0,none⟩ 1 1 [.string name,.bool false,.bool hb,.int .i64 0,.pointer none] (by simp [Act.eval]) rfl (five_at w1.drew _ _ _ _ _ _) (by simp [Value.oneCell']) (by unfold maxLen;omega) (by omega) MA.out.lt ?_
 intro v' w3 hown hgrow hat
 have O3:=hide hown
 have G3:=hide hgrow
 have AT3:=hide hat
 have S3:=hide (SQ.out w3 (fun k hk hne=>(hgrow.block k (Nat.lt_of_lt_of_le hk (by simp<;>omega)) hne).trans (AB.out.block k hk)))
 obtain ⟨av',cv',rfl⟩:=own_sliceM hown
 clear hown hgrow hat
 refine hK.out _ _ (fun _=>S3.out) ?_
 clear hK K HS
 (try simp only [Act.put,List.setIfInBounds_toArray,List.set_cons_zero,List.set_cons_succ])
 refine anyN_one (i:=12) rfl (by as_aux_lemma=>kernel_rfl) (fun K hK=>?_)
 go_simp
 refine hK.out _ _ (fun _=>S3.out) ?_
 clear hK K
 (try simp only [Act.put,List.setIfInBounds_toArray,List.set_cons_zero,List.set_cons_succ])
 refine anyN_one (i:=13) rfl (by as_aux_lemma=>kernel_rfl) (fun K hK=>?_)
 go_simp
 refine hK.out _ _ (fun _=>S3.out) ?_
 clear hK K
 (try simp only [Act.put,List.setIfInBounds_toArray,List.set_cons_zero,List.set_cons_succ])
 have M4:=hide (MA.out.tied UA.out G3.out (v':=.slice av' (ls.length+1) cv'))
 have U4:=hide (UA.out.tied (l:=⟨name,false,hb⟩) (fun h=>by cases h) G3.out O3.out AT3.out MA.out.vlt)
 have s6:=S3.out.1
 have hf6:w3.frozen? ⟨eb,6,none⟩=false:=by
  obtain ⟨⟨aa,ca,hbl,ha⟩,-⟩:=UA.out
  have hne:some eb≠(Value.slice av ls.length cv).ownBlock:=fun e=>by
   obtain ⟨_,_,cs,hc⟩:=own_cellsM UA.out.row eb e.symm
   exact absurd (two_types hbl hc) (by decide)
  exact (World.frozen?_of_block (a:=⟨eb,6,none⟩) (G3.out.block eb (heap_lt hbl) hne)).trans (hbl.facts.2.2.2.2.2.2.2.2.2 6)
 have hz3:w1.heap.size≤w3.heap.size:=Nat.le_trans (by simp<;>omega) G3.out.size
 have hel3:eb<w3.heap.size:=Nat.lt_of_lt_of_le hel hz3
 refine anyN_one (i:=14) rfl (by as_aux_lemma=>kernel_rfl) (fun K hK=>?_)
 go_simp
 refine hK.out _ _ (fun h=>absurd rfl h) ?_
 clear hK K s6 hf6
 (try simp only [Act.put,List.setIfInBounds_toArray,List.set_cons_zero,List.set_cons_succ])
 refine anyN_done (by as_aux_lemma=>kernel_rfl) ?_ _
 have RB:Hid ((w3.setCell ⟨eb,6,none⟩ (.slice av' (ls.length+1) cv')).heap[w.heap.size+1]?=some (.cells #[.bool false,.int .i64 0,.string ⟨#[]⟩] 211 (0,0))):=(Below.heap_setCell _ _ _ _ (show w.heap.size+1≠eb by omega)).trans ((G3.out.block _ (Nat.lt_of_lt_of_le (show w.heap.size+1<w1.heap.size by omega) (by simp<;>omega)) TN2.out).trans ((AB.out.block _ (by omega)).trans kr1.out))
 have R4:Hid (RepSt w0 S mb mp (.slice a0 S.n0 c0) (.slice a1 S.n1 c1) w (w3.setCell ⟨eb,6,none⟩ (.slice av' (ls.length+1) cv')) making made G V mk md eb tg nm (ls++[⟨name,false,hb⟩]) (.slice av ls.length cv) (.slice av' (ls.length+1) cv')):=by
  refine ⟨M4.out.1,U4.out,?_,fun k hk=>?_⟩
  ·exact ((KW.out.to (KX.of_below (X:=XN) (⟨AB.out.os,AB.out.tape,AB.out.output,AB.out.size,AB.out.block⟩:Below w1.heap.size w1 _) lr (by omega))).weak).trans M4.out.2 (fun _ _ h=>h)
  ·rcases AT3.out with e | e
   ·exact .inl (by rw [← e];exact hk)
   ·rw [e] at hk
    cases hk
    exact .inr (Nat.le_trans (show w.heap.size≤w1.heap.size by omega) (by simp<;>omega))
 generalize w3.setCell ⟨eb,6,none⟩ (.slice av' (ls.length+1) cv')=W4 at RB R4 ⊢
 obtain ⟨rl,r0,r1,r2,rf⟩:=three_facts RB.out
 have rf0:=rf 0
 have rf1:=rf 1
 have rf2:=rf 2
 clear rf M4 U4
 go_wp2_with fail
 refine bodyPost_ret (v:=.agg #[.bool hb,.int .i64 0,.string ⟨#[]⟩]) (by simp [results,Tryz.results172,go_sem,r0,r1,r2]) rfl ⟨rfl,.slice av' (ls.length+1) cv',?_⟩
 have X0:=R4.out.set RB.out (by decide) hB0 (Nat.le_succ _) 0 (.bool hb)
 have X1:=X0.1.set X0.2 (by decide) hB0 (Nat.le_succ _) 1 (.int .i64 0)
 have X2:=X1.1.set X1.2 (by decide) hB0 (Nat.le_succ _) 2 (.string ⟨#[]⟩)
 exact X2.1
def AskPost (w0:World)(S:Spc)(mb mp:Nat)(s0 s1:Value)(making:List ByteArray)(made:List Ent)(G:ByteArray→Nat)(V:ByteArray→Value)(w:World)(eb tg:Nat)(nm name:ByteArray)(ls:List Lk)(v:Value)(e:Ending)(w':World):Out Ent→Prop
 | .inl (made',x)=>e=.returned (.agg #[.bool (decide (¬ x.kind=2)),.int .i64 x.code,.string x.text])∧∃ G' V' mk' md' v',RepSt w0 S mb mp s0 s1 w w' making made' G' V' mk' md' eb tg nm (ls++[⟨name,true,false⟩]) v v'∧Ext w.heap.size made made' G G' V V'
 | .inr (.inl c)=>∃ v,e=.panicked [{ v:=.iface 184 (.agg #[v]),recovered:=false }]∧w'.ownsRow w0.heap.size 9 1 v c.length (strV c)∧Below w0.heap.size w w'
 | .inr (.inr d)=>e=.panicked [{ v:=.iface 186 (.agg #[.string d]),recovered:=false }]∧Below w0.heap.size w w'
theorem reply_ask (C:Ctx w0 S a0 c0 a1 c1)(n:Nat)(HL:LiesOk w0 S mb mp (.slice a0 S.n0 c0) (.slice a1 S.n1 c1) n)(w:World)(eb tg:Nat)(nm:ByteArray)(ls:List Lk)(v:Value)(T:Turn)(hlen:making.length+n=60)(h:MI w0 S mb mp (.slice a0 S.n0 c0) (.slice a1 S.n1 c1) w making making made G V mk md)(hp:PG S making made)(hroom:roomN S making made 1)(hu:EU w0 S w eb nm tg G ls v made V)(hls:ls.length≤200)(hask:T.ask=true)(hn:nameOk T.name=true) :
  Calls Tryz.prog 172 #[.pointer (some ⟨mb,0,none⟩),.pointer (some ⟨eb,0,none⟩),T.v] w fun e w'=>AskPost w0 S mb mp (.slice a0 S.n0 c0) (.slice a1 S.n1 c1) making made G V w eb tg nm T.name ls v e w' (liesP S n making made T.name):=by
 obtain ⟨i1,hi,hy0,hy1,hy2⟩:=infoM2 infoTie
 obtain ⟨av,cv,rfl⟩:=own_sliceM hu.row
 obtain ⟨over,code,text,ask,name,steps⟩:=T
 simp only at hask hn
 subst hask
 have A0:=hide (((Below.refl w.heap.size w).alloc lr (.cells #[.bool over,.int .i64 code,.string text,.bool true,.string name,.int .i64 steps] 208)).alloc (by simp) (.cells #[.bool false,.int .i64 0,.string ⟨#[]⟩] 211))
 have kt3:((w.alloc (.cells #[.bool over,.int .i64 code,.string text,.bool true,.string name,.int .i64 steps] 208)).alloc (.cells #[.bool false,.int .i64 0,.string ⟨#[]⟩] 211)).cell? ⟨w.heap.size,3,none⟩=some (.bool true):=by simp [go_sem]
 have kt4:((w.alloc (.cells #[.bool over,.int .i64 code,.string text,.bool true,.string name,.int .i64 steps] 208)).alloc (.cells #[.bool false,.int .i64 0,.string ⟨#[]⟩] 211)).cell? ⟨w.heap.size,4,none⟩=some (.string name):=by simp [go_sem]
 have hz0:((w.alloc (.cells #[.bool over,.int .i64 code,.string text,.bool true,.string name,.int .i64 steps] 208)).alloc (.cells #[.bool false,.int .i64 0,.string ⟨#[]⟩] 211)).heap.size=w.heap.size+2:=by simp
 have kr:Hid (((w.alloc (.cells #[.bool over,.int .i64 code,.string text,.bool true,.string name,.int .i64 steps] 208)).alloc (.cells #[.bool false,.int .i64 0,.string ⟨#[]⟩] 211)).heap[w.heap.size+1]?=some (.cells #[.bool false,.int .i64 0,.string ⟨#[]⟩] 211 (0,0))):=by
  have h2:=heap_alloc_new (w.alloc (.cells #[.bool over,.int .i64 code,.string text,.bool true,.string name,.int .i64 steps] 208)) (.cells #[.bool false,.int .i64 0,.string ⟨#[]⟩] 211)
  rw [show (w.alloc (.cells #[.bool over,.int .i64 code,.string text,.bool true,.string name,.int .i64 steps] 208)).heap.size=w.heap.size+1 by simp] at h2
  exact h2
 have kt:Hid (((w.alloc (.cells #[.bool over,.int .i64 code,.string text,.bool true,.string name,.int .i64 steps] 208)).alloc (.cells #[.bool false,.int .i64 0,.string ⟨#[]⟩] 211)).heap[w.heap.size]?=some (.cells #[.bool over,.int .i64 code,.string text,.bool true,.string name,.int .i64 steps] 208 (0,0))):=by
  have h2:=heap_alloc_new w (.cells #[.bool over,.int .i64 code,.string text,.bool true,.string name,.int .i64 steps] 208)
  exact (((Below.refl (w.heap.size+1) _).alloc (by simp) _).block w.heap.size (by omega)).trans h2
 have M0:=hide (h.below A0.out lr)
 have U0:=hide (hu.below A0.out lr)
 have CC:=hide C
 have HLL:=hide HL
 have PP:=hide hp
 have hB0:w0.heap.size≤w.heap.size:=h.lt
 have heb0:eb<w.heap.size:=by obtain ⟨⟨aa,ca,hbl,ha⟩,-⟩:=hu;exact heap_lt hbl
 have TN2:Hid (some (w.heap.size+1)≠(Value.slice av ls.length cv).ownBlock):=fun e=>by have:=(own_cellsM hu.row _ e.symm).2.1;omega
 have TN:Hid (some w.heap.size≠(Value.slice av ls.length cv).ownBlock):=fun e=>by have:=(own_cellsM hu.row _ e.symm).2.1;omega
 clear h hu C HL hp
 show Calls Tryz.prog 172 #[.pointer (some ⟨mb,0,none⟩),.pointer (some ⟨eb,0,none⟩),.agg #[.bool over,.int .i64 code,.string text,.bool true,.string name,.int .i64 steps]] w _
 obtain ⟨R,hR⟩:∃ R,R=liesP S n making made name:=⟨_,rfl⟩
 have HR:=hide hR
 simp only
 rw [← hR]
 clear hR
 go_enter Tryz.func172,Tryz.ntmps172
 go_wp2_with fail
 clear kt3 kt4
 generalize (w.alloc (.cells #[.bool over,.int .i64 code,.string text,.bool true,.string name,.int .i64 steps] 208)).alloc (.cells #[.bool false,.int .i64 0,.string ⟨#[]⟩] 211)=W0 at A0 hz0 kr kt M0 U0 ⊢
 refine (HLL.out making made G V mk md W0 name hlen M0.out PP.out hroom hn).mono ?_
 intro e w1 hpost
 rw [← HR.out] at hpost
 rcases R with ⟨made',x⟩ | c | d
 ·obtain ⟨G',V',mk',md',rfl,hM,hE,hK⟩:=hpost
  obtain ⟨hp',-,hx,hxn⟩:=liesP_good CC.out.ok n making made name made' x PP.out hn HR.out.symm
  have M1:=hide hM
  have U1:=hide (U0.out.step hK hE)
  have E1:=hide (hE.mono (show w.heap.size≤W0.heap.size by omega))
  have KW:=hide ((KX.of_below (X:=XN) A0.out lr hB0).to hK)
  have HX:=hide hx
  have HXN:=hide hxn
  have hz1:w.heap.size+2≤w1.heap.size:=by have:=hK.below.size;omega
  have kr1:Hid (w1.heap[w.heap.size+1]?=some (.cells #[.bool false,.int .i64 0,.string ⟨#[]⟩] 211 (0,0))):=(hK.blk _ _ _ _ kr.out (by decide) (by decide) (by decide) fun h=>h).trans kr.out
  have kt1:=(hK.blk _ _ _ _ kt.out (by decide) (by decide) (by decide) fun h=>h).trans kt.out
  have n4:w1.cell? ⟨w.heap.size,4,none⟩=some (.string name):=by simp [World.cell?,kt1]
  rw [hxn]
  clear hM hE hK hx hxn hp' kt1 M0 U0 kr kt
  go_wp2_with fail
  obtain ⟨⟨aa,ca,hbl,ha⟩,-⟩:=U1.out
  obtain ⟨hel,-,-,-,-,-,-,e6,-,ef⟩:=hbl.facts
  have ef6:=ef 6
  have hebB:w0.heap.size≤eb:=U1.out.ge
  clear hbl ha ef
  have SQ:Hid (∀ V:World,(∀ k,k<w1.heap.size→some k≠(Value.slice av ls.length cv).ownBlock→V.heap[k]?=w1.heap[k]?)→V.cell? ⟨eb,6,none⟩=some (.slice av ls.length cv)∧V.cell? ⟨w.heap.size,4,none⟩=some (.string name)):=fun V hV=>by
   have hne:some eb≠(Value.slice av ls.length cv).ownBlock:=fun e=>by
    obtain ⟨⟨aa,ca,hbl,ha⟩,-⟩:=U1.out
    obtain ⟨_,_,cs,hc⟩:=own_cellsM U1.out.row eb e.symm
    exact absurd (two_types hbl hc) (by decide)
   have hne2:some w.heap.size≠(Value.slice av ls.length cv).ownBlock:=TN.out
   exact ⟨(World.cell?_of_block (a:=⟨eb,6,none⟩) (hV eb hel hne)).trans e6,(World.cell?_of_block (a:=⟨w.heap.size,4,none⟩) (hV w.heap.size (by omega) hne2)).trans n4⟩
  have HS:=hide (SQ.out w1.drew (fun k hk _=>rfl))
  have UD:Hid (EU w0 S w1.drew eb nm tg G' ls (.slice av ls.length cv) made' V'):=U1.out.below (Below.refl _ _).drew lr 
  have MD:Hid (MI w0 S mb mp (.slice a0 S.n0 c0) (.slice a1 S.n1 c1) w1.drew making making made' G' V' mk' md'):=M1.out.below (Below.refl _ _).drew lr 
  refine wp_region_N (fun V=>V.cell? ⟨eb,6,none⟩=some (.slice av ls.length cv)∧V.cell? ⟨w.heap.size,4,none⟩=some (.string name)) 14 (by as_aux_lemma=>kernel_rfl) ?_
  clear e6 n4
  iterate 4
   refine anyN_nx 0 (v:=?_) rfl rfl (by as_aux_lemma=>kernel_rfl) (fun _ _ _ h=>h) rfl ?_ HS.out ?_
   rotate_left
   ·(intro wz hSw;obtain ⟨s0,s1⟩:=hSw;go_simp)
    (try with_reducible rfl)
   (try simp only [Act.put,List.setIfInBounds_toArray,List.set_cons_zero,List.set_cons_succ])
  refine anyN_nx 5 (v:=?_) rfl rfl (by as_aux_lemma=>kernel_rfl) (fun _ _ _ h=>h) rfl ?_ HS.out ?_
  rotate_left
  ·(intro wz hSw;obtain ⟨s0,s1⟩:=hSw;go_simp)
   (try with_reducible rfl)
  (try simp only [Act.put,List.setIfInBounds_toArray,List.set_cons_zero,List.set_cons_succ])
  refine anyN_nx 4 (v:=?_) rfl rfl (by as_aux_lemma=>kernel_rfl) (fun _ _ _ h=>h) rfl ?_ HS.out ?_
  rotate_left
  ·(intro wz hSw;obtain ⟨s0,s1⟩:=hSw;go_simp)
   (try with_reducible rfl)
  (try simp only [Act.put,List.setIfInBounds_toArray,List.set_cons_zero,List.set_cons_succ])
  iterate 4
   refine anyN_nx 6 (v:=?_) rfl rfl (by as_aux_lemma=>kernel_rfl) (fun _ _ _ h=>h) rfl ?_ HS.out ?_
   rotate_left
   ·(intro wz hSw;obtain ⟨s0,s1⟩:=hSw;go_simp)
    (try with_reducible rfl)
   (try simp only [Act.put,List.setIfInBounds_toArray,List.set_cons_zero,List.set_cons_succ])
  refine anyN_one (i:=10) rfl (by as_aux_lemma=>kernel_rfl) (fun K hK=>?_)
  go_simp
  have AB:=hide ((Below.refl w1.heap.size w1.drew).alloc lr (.cells #[.string name,.bool true,.bool false,.int .i64 0,.pointer (some ⟨G' name,0,none⟩)] 154))
  have UA:=hide (UD.out.below AB.out lr)
  have MA:=hide (MD.out.below AB.out lr)
  refine hK.out _ _ (fun _=>SQ.out _ (fun k hk _=>AB.out.block k hk)) ?_
  clear hK K
  (try simp only [Act.put,List.setIfInBounds_toArray,List.set_cons_zero,List.set_cons_succ])
  refine anyN_one (i:=11) rfl (by as_aux_lemma=>kernel_rfl) (fun K hK=>?_)
  refine step_append_own_at rfl (.tmp 43) (.tmp 49) 87 rfl w0.heap.size 154 i1 (.agg #[.string ⟨#[]⟩,.bool false,.bool false,.int .i64 0,.pointer none]) 5 40 Tryz.underlying87 hi hy0 hy1 hy2 rfl (by decide) (.slice av ls.length cv) ls.length (tiesV G' ls) (by simp [Act.eval]) UA.out.row ⟨w1.heap.size,0,none⟩ 1 1 [.string name,.bool true,.bool false,.int .i64 0,.pointer (some ⟨G' name,0,none⟩)] (by simp [Act.eval]) rfl (five_at w1.drew _ _ _ _ _ _) (by simp [Value.oneCell']) (by unfold maxLen;omega) (by omega) MA.out.lt ?_
  intro v' w3 hown hgrow hat
  have O3:=hide hown
  have G3:=hide hgrow
  have AT3:=hide hat
  have S3:=hide (SQ.out w3 (fun k hk hne=>(hgrow.block k (Nat.lt_of_lt_of_le hk (by simp<;>omega)) hne).trans (AB.out.block k hk)))
  obtain ⟨av',cv',rfl⟩:=own_sliceM hown
  clear hown hgrow hat
  refine hK.out _ _ (fun _=>S3.out) ?_
  clear hK K HS
  (try simp only [Act.put,List.setIfInBounds_toArray,List.set_cons_zero,List.set_cons_succ])
  refine anyN_one (i:=12) rfl (by as_aux_lemma=>kernel_rfl) (fun K hK=>?_)
  go_simp
  refine hK.out _ _ (fun _=>S3.out) ?_
  clear hK K
  (try simp only [Act.put,List.setIfInBounds_toArray,List.set_cons_zero,List.set_cons_succ])
  refine anyN_one (i:=13) rfl (by as_aux_lemma=>kernel_rfl) (fun K hK=>?_)
  go_simp
  refine hK.out _ _ (fun _=>S3.out) ?_
  clear hK K
  (try simp only [Act.put,List.setIfInBounds_toArray,List.set_cons_zero,List.set_cons_succ])
  have M4:=hide (MA.out.tied UA.out G3.out (v':=.slice av' (ls.length+1) cv'))
  have U4:=hide (UA.out.tied (l:=⟨name,true,false⟩) (fun _=>⟨x,HX.out,HXN.out⟩) G3.out O3.out AT3.out MA.out.vlt)
  have s6:=S3.out.1
  have hf6:w3.frozen? ⟨eb,6,none⟩=false:=by
   obtain ⟨⟨aa,ca,hbl,ha⟩,-⟩:=UA.out
   have hne:some eb≠(Value.slice av ls.length cv).ownBlock:=fun e=>by
    obtain ⟨_,_,cs,hc⟩:=own_cellsM UA.out.row eb e.symm
    exact absurd (two_types hbl hc) (by decide)
   exact (World.frozen?_of_block (a:=⟨eb,6,none⟩) (G3.out.block eb (heap_lt hbl) hne)).trans (hbl.facts.2.2.2.2.2.2.2.2.2 6)
  have hz3:w1.heap.size≤w3.heap.size:=Nat.le_trans (by simp<;>omega) G3.out.size
  have hel3:eb<w3.heap.size:=Nat.lt_of_lt_of_le hel hz3
  refine anyN_one (i:=14) rfl (by as_aux_lemma=>kernel_rfl) (fun K hK=>?_)
  go_simp
  refine hK.out _ _ (fun h=>absurd rfl h) ?_
  clear hK K s6 hf6
  (try simp only [Act.put,List.setIfInBounds_toArray,List.set_cons_zero,List.set_cons_succ])
  refine anyN_done (by as_aux_lemma=>kernel_rfl) ?_ _
  have RB:Hid ((w3.setCell ⟨eb,6,none⟩ (.slice av' (ls.length+1) cv')).heap[w.heap.size+1]?=some (.cells #[.bool false,.int .i64 0,.string ⟨#[]⟩] 211 (0,0))):=(Below.heap_setCell _ _ _ _ (show w.heap.size+1≠eb by omega)).trans ((G3.out.block _ (Nat.lt_of_lt_of_le (show w.heap.size+1<w1.heap.size by omega) (by simp<;>omega)) TN2.out).trans ((AB.out.block _ (by omega)).trans kr1.out))
  have R4:Hid (RepSt w0 S mb mp (.slice a0 S.n0 c0) (.slice a1 S.n1 c1) w (w3.setCell ⟨eb,6,none⟩ (.slice av' (ls.length+1) cv')) making made' G' V' mk' md' eb tg nm (ls++[⟨name,true,false⟩]) (.slice av ls.length cv) (.slice av' (ls.length+1) cv')):=by
   refine ⟨M4.out.1,U4.out,?_,fun k hk=>?_⟩
   ·exact ((KW.out.to (KX.of_below (X:=XN) (⟨AB.out.os,AB.out.tape,AB.out.output,AB.out.size,AB.out.block⟩:Below w1.heap.size w1 _) lr (by omega))).weak).trans M4.out.2 (fun _ _ h=>h)
   ·rcases AT3.out with e | e
    ·exact .inl (by rw [← e];exact hk)
    ·rw [e] at hk
     cases hk
     exact .inr (Nat.le_trans (show w.heap.size≤w1.heap.size by omega) (by simp<;>omega))
  generalize w3.setCell ⟨eb,6,none⟩ (.slice av' (ls.length+1) cv')=W4 at RB R4 ⊢
  obtain ⟨rl,r0,r1,r2,rf⟩:=three_facts RB.out
  have rf0:=rf 0
  have rf1:=rf 1
  have rf2:=rf 2
  clear rf M4 U4
  have EX:=hide (R4.out.1.ents x HX.out)
  obtain ⟨act,hbl,hac⟩:=EX.out.blk
  rw [HXN.out] at hbl
  obtain ⟨q,q0,q1,q2,q3,q4,q5,-,-,-⟩:=hbl.facts
  obtain ⟨aa,na,ca,rfl⟩:∃ a n c,act=.slice a n c:=by
   unfold ActOk at hac
   split at hac
   ·obtain ⟨_,a,c,e,_⟩:=hac;exact ⟨a,_,c,e⟩
   ·exact ⟨_,_,_,hac⟩
  clear hbl hac
  go_wp2_with fail
  refine (reply_any ⟨name,x.kind,x.code,x.text,na,fun _=>⟨0,⟨#[]⟩,0⟩,0,fun _=>⟨⟨#[]⟩,false,false,0⟩⟩ aa ca none 0 W4).mono ?_
  rintro e w5 ⟨rfl,hB5⟩
  have RB5:Hid (w5.heap[w.heap.size+1]?=some (.cells #[.bool false,.int .i64 0,.string ⟨#[]⟩] 211 (0,0))):=(hB5.block _ rl).trans RB.out
  have R5:Hid (RepSt w0 S mb mp (.slice a0 S.n0 c0) (.slice a1 S.n1 c1) w w5 making made' G' V' mk' md' eb tg nm (ls++[⟨name,true,false⟩]) (.slice av ls.length cv) (.slice av' (ls.length+1) cv')):=⟨R4.out.1.below hB5 lr,R4.out.2.1.below hB5 lr,R4.out.2.2.1.to (KX.of_below hB5 lr R4.out.1.lt),R4.out.2.2.2⟩
  clear r0 r1 r2 rf0 rf1 rf2 q0 q1 q2 q3 q4 q5 hB5
  obtain ⟨rl5,r0,r1,r2,rf⟩:=three_facts RB5.out
  have rf0:=rf 0
  have rf1:=rf 1
  have rf2:=rf 2
  clear rf
  obtain ⟨kb,hkb⟩:∃ kb,kb=decide (¬ x.kind=2):=⟨_,rfl⟩
  have HKB:=hide hkb
  simp only
  rw [← hkb]
  clear hkb
  go_wp2_with fail
  refine bodyPost_ret (v:=.agg #[.bool kb,.int .i64 x.code,.string x.text]) (by simp [results,Tryz.results172,go_sem,r0,r1,r2]) rfl ?_
  show AskPost w0 S mb mp (.slice a0 S.n0 c0) (.slice a1 S.n1 c1) making made G V w eb tg nm name ls (.slice av ls.length cv) _ _ (.inl (made',x))
  refine ⟨by rw [HKB.out],G',V',mk',md',.slice av' (ls.length+1) cv',?_,E1.out⟩
  have X0:=R5.out.set RB5.out (by decide) hB0 (Nat.le_succ _) 0 (.bool kb)
  have X1:=X0.1.set X0.2 (by decide) hB0 (Nat.le_succ _) 1 (.int .i64 x.code)
  have X2:=X1.1.set X1.2 (by decide) hB0 (Nat.le_succ _) 2 (.string x.text)
  exact X2.1
 ·obtain ⟨u,rfl,h1,h2⟩:=hpost
  go_wp2_with fail
  exact ⟨rfl,u,rfl,h1,(A0.out.mono hB0).trans h2⟩
 ·obtain ⟨rfl,h2⟩:=hpost
  go_wp2_with fail
  exact ⟨rfl,rfl,(A0.out.mono hB0).trans h2⟩
end
end Go.Proofs.YtfnbojfnelfnkaaGreatDoor.Vp
namespace Go.Proofs.YtfnbojfnelfnkaaGreatDoor.Vp
open Go.RowKit
theorem begin_ty (pb po cnt cap:Nat)(w:World) :
  Calls Tryz.prog 171 #[.agg #[.slice (some ⟨pb,po,none⟩) cnt cap]] w fun e w'=>∃ b,e=.returned (.func (.func 175) #[] #[.pointer (some ⟨b,0,none⟩)])∧w.heap.size≤b∧MAt w' b (.slice (some ⟨pb,po,none⟩) cnt cap) m0∧(∃ cs,w'.heap[b]?=some (.cells cs 239 (0,0)))∧Below w.heap.size w w':=by
 have A0:=hide ((Below.refl w.heap.size w).alloc lr (.cells #[.slice (some ⟨pb,po,none⟩) cnt cap] 53))
 have k0:(w.alloc (.cells #[.slice (some ⟨pb,po,none⟩) cnt cap] 53)).cell? ⟨w.heap.size,0,none⟩=some (.slice (some ⟨pb,po,none⟩) cnt cap):=by simp
 have z0:(w.alloc (.cells #[.slice (some ⟨pb,po,none⟩) cnt cap] 53)).heap.size=w.heap.size+1:=by simp
 have HM0:=hide (mach0_is (w.alloc (.cells #[.slice (some ⟨pb,po,none⟩) cnt cap] 53)) (some ⟨pb,po,none⟩) cnt cap)
 have HM1:=hide (by have:=HM0.out;rw [z0] at this;exact this)
 have A1:=hide (A0.out.alloc A0.out.size (.cells (mach0 (.slice (some ⟨pb,po,none⟩) cnt cap)) 239))
 have TY:Hid (∃ cs,((w.alloc (.cells #[.slice (some ⟨pb,po,none⟩) cnt cap] 53)).alloc (.cells (mach0 (.slice (some ⟨pb,po,none⟩) cnt cap)) 239)).heap[w.heap.size+1]?=some (.cells cs 239 (0,0))):=by
  have h2:=heap_alloc_new (w.alloc (.cells #[.slice (some ⟨pb,po,none⟩) cnt cap] 53)) (.cells (mach0 (.slice (some ⟨pb,po,none⟩) cnt cap)) 239)
  rw [z0] at h2
  exact ⟨_,h2⟩
 go_enter Tryz.func171,Tryz.ntmps171
 go_wp2_with (first
  | (refine build_is rfl 239 #[(1,.tmp 5)] rfl [(1,.slice (some ⟨pb,po,none⟩) cnt cap)] (mach0 (.slice (some ⟨pb,po,none⟩) cnt cap)) (by simp [Act.eval]) (built0 _ _ _) ?_)
  | (refine wpList_store_row rfl 239 (.tmp 3) (.tmp 6) rfl (w.heap.size+1) (mach0 (.slice (some ⟨pb,po,none⟩) cnt cap)) rfl rfl _ _ (by rw [← z0];exact heap_alloc_last _ _) (infoM.trans (by rw [mach0_size])) (by rw [mach0_size];rfl) (mach0_one _ _ _) ?_;rw [← z0,World.setRow_alloc_new])
  | fail)
 go_ret
 exact ⟨_,rfl,by first | (simp;done) | (simp;omega),HM1.out,TY.out,A1.out⟩
section
variable {w0 w w':World}{S:Spc}{mb mp:Nat}{s0 s1 mk md:Value}{cnt nk np:Nat}{F:List UInt8→Option Value}{ks ps:List Value}{made:List Ent}{G:ByteArray→Nat}{V:ByteArray→Value}
theorem MIg.only {b:Nat}{cs:Array Value}{t:TypeId}{fz:Nat × Nat}(h:MIg w0 S mb mp s0 s1 w cnt F nk ks np ps made G V mk md)(hb:w.heap[b]?=some (.cells cs t fz))(ht:offT t)(hB:w0.heap.size≤b)(ho:Only b w w'):MIg w0 S mb mp s0 s1 w' cnt F nk ks np ps made G V mk md:=by
 have hk:KX w0.heap.size (fun i=>i=b) w w':=KX.of_only ho rfl h.lt hB
 obtain ⟨t1,t2,t3,t4,t5⟩:=ht
 refine h.kx hk (fun i o hi hne=>ho.block i (heap_lt hi) hne) (fun e=>?_) (fun e=>?_) (fun k hk2 e=>?_) (fun k hk2 e=>?_) (fun x hx=>⟨fun e=>?_,fun k hk2 e=>?_⟩)
 ·subst e;exact t3 (two_types hb h.box)
 ·obtain ⟨es,c,hm⟩:=h.map.isMap
  rw [e,hb] at hm;cases hm
 ·subst e;obtain ⟨_,_,cs,hc⟩:=own_cellsM h.rmk _ hk2;exact t1 (two_types hb hc)
 ·subst e;obtain ⟨_,_,cs,hc⟩:=own_cellsM h.rmd _ hk2;exact t2 (two_types hb hc)
 ·obtain ⟨act,hbl,_⟩:=(h.ents x hx).blk
  rw [e] at hbl
  exact t4 (two_types hb hbl)
 ·subst e;obtain ⟨_,_,cs,hc⟩:=own_cellsM (h.ents x hx).row _ hk2;exact t5 (two_types hb hc)
theorem EU.only {b eb tg:Nat}{nm:ByteArray}{ls:List Lk}{v:Value}{cs:Array Value}{t:TypeId}{fz:Nat × Nat}(h:EU w0 S w eb nm tg G ls v made V)(hb:w.heap[b]?=some (.cells cs t fz))(ht:offT t)(ho:Only b w w'):EU w0 S w' eb nm tg G ls v made V:=by
 obtain ⟨⟨a,cap,hbl,ha⟩,hge,hr,hf,hap,has⟩:=h
 obtain ⟨t1,t2,t3,t4,t5⟩:=ht
 refine ⟨⟨a,cap,(ho.block _ (heap_lt hbl) fun e=>?_).trans hbl,ha⟩,hge,own_blk hr fun k hk=>?_,hf,hap,has⟩
 ·subst e;exact t4 (two_types hb hbl)
 ·obtain ⟨_,hl,cs,hc⟩:=own_cellsM hr _ hk
  exact ho.block k hl fun e=>t5 (two_types hb (e ▸ hc))
theorem MIg.entOnly {eb:Nat}{cs:Array Value}{fz:Nat × Nat}(h:MIg w0 S mb mp s0 s1 w cnt F nk ks np ps made G V mk md)(hb:w.heap[eb]?=some (.cells cs 89 fz))(hf:∀ x∈made,G x.name≠eb)(hB:w0.heap.size≤eb)(ho:Only eb w w'):MIg w0 S mb mp s0 s1 w' cnt F nk ks np ps made G V mk md:=by
 have hk:KX w0.heap.size (fun i=>i=eb) w w':=KX.of_only ho rfl h.lt hB
 refine h.kx hk (fun i o hi hne=>ho.block i (heap_lt hi) hne) (fun e=>?_) (fun e=>?_) (fun k hk2 e=>?_) (fun k hk2 e=>?_) (fun x hx=>⟨fun e=>hf x hx e,fun k hk2 e=>?_⟩)
 ·subst e;exact absurd (two_types hb h.box) (by decide)
 ·obtain ⟨es,c,hm⟩:=h.map.isMap
  rw [e,hb] at hm;cases hm
 ·subst e;obtain ⟨_,_,cs,hc⟩:=own_cellsM h.rmk _ hk2;exact absurd (two_types hb hc) (by decide)
 ·subst e;obtain ⟨_,_,cs,hc⟩:=own_cellsM h.rmd _ hk2;exact absurd (two_types hb hc) (by decide)
 ·subst e;obtain ⟨_,_,cs,hc⟩:=own_cellsM (h.ents x hx).row _ hk2;exact absurd (two_types hb hc) (by decide)
end
theorem MAt.blk {w w':World}{b:Nat}{cv:Value}{m:Mst}(h:MAt w b cv m)(hb:w'.heap[b]?=w.heap[b]?)(hs:w.heap.size≤w'.heap.size):MAt w' b cv m :=
 ⟨Nat.lt_of_lt_of_le h.1 hs,fun j hj=>⟨(World.cell?_of_block (a:=⟨b,j,none⟩) hb).trans (h.2 j hj).1,(World.frozen?_of_block (a:=⟨b,j,none⟩) hb).trans (h.2 j hj).2⟩⟩
def TB (w:World)(g:Nat)(t:Turn):Prop:=w.heap[g]?=some (.cells #[.bool t.over,.int .i64 t.code,.string t.text,.bool t.ask,.string t.name,.int .i64 t.steps] 208 (0,0))
theorem TB.facts {w:World}{g:Nat}{t:Turn}(h:TB w g t):g<w.heap.size∧w.cell? ⟨g,0,none⟩=some (.bool t.over)∧w.cell? ⟨g,1,none⟩=some (.int .i64 t.code)∧w.cell? ⟨g,2,none⟩=some (.string t.text)∧w.cell? ⟨g,3,none⟩=some (.bool t.ask)∧w.cell? ⟨g,4,none⟩=some (.string t.name)∧w.cell? ⟨g,5,none⟩=some (.int .i64 t.steps)∧∀ j,w.frozen? ⟨g,j,none⟩=false:=by
 unfold TB at h
 refine ⟨heap_lt h,?_,?_,?_,?_,?_,?_,fun j=>?_⟩
 all_goals simp [World.cell?,World.frozen?,h]
theorem TB.put {w:World}{g:Nat}{u:Turn}(h:TB w g u)(t:Turn):TB (putTurn w g t) g t :=
 heap_setCell_at (heap_setCell_at (heap_setCell_at (heap_setCell_at (heap_setCell_at (heap_setCell_at h (j:=0) _) (j:=1) _) (j:=2) _) (j:=3) _) (j:=4) _) (j:=5) _
theorem TB.only {w w':World}{g b:Nat}{t:Turn}(h:TB w g t)(ho:Only b w w')(hg:g≠b):TB w' g t:=(ho.block g (heap_lt h) hg).trans h
end Go.Proofs.YtfnbojfnelfnkaaGreatDoor.Vp
