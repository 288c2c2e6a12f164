import Derived.Test.YtkophfgkcijjkaaGreatDoorYX
import Derived.Test.YtkophfgkcijjkaaGreatDoorYM
import Derived.Test.YtkophfgkcijjkaaGreatDoorYV
import Derived.Test.YtkophfgkcijjkaaGreatDoorYW
import Derived.Test.YtkophfgkcijjkaaGreatDoorZX
set_option maxRecDepth 100000
set_option maxHeartbeats 16000000
namespace Go.Proofs.YtkophfgkcijjkaaGreatDoor.Vp
open RowKit Ca
structure MB (V:World)(sb ab rb:Nat)(v0 v1 va vc:Value)(rc:Int)(rt:ByteArray):Prop where
 s:V.heap[sb]?=some (.cells #[v0,v1] 26 (0,0))
 a:V.heap[ab]?=some (.cells #[va] 59 (0,0))
 r:V.heap[rb]?=some (.cells #[.int .i64 rc,.string rt,vc] 41 (0,0))
section
variable {V U:World}{sb ab rb:Nat}{v0 v1 va vc:Value}{rc:Int}{rt:ByteArray}
theorem MB.below (h:MB V sb ab rb v0 v1 va vc rc rt)(hb:Below V.heap.size V U):MB U sb ab rb v0 v1 va vc rc rt:=⟨(hb.block sb (az h.s)).trans h.s,(hb.block ab (az h.a)).trans h.a,(hb.block rb (az h.r)).trans h.r⟩
theorem MB.cells (h:MB V sb ab rb v0 v1 va vc rc rt):V.cell? ⟨sb,0,none⟩=some v0∧V.cell? ⟨sb,1,none⟩=some v1∧V.cell? ⟨rb,0,none⟩=some (.int .i64 rc)∧V.cell? ⟨rb,1,none⟩=some (.string rt)∧V.cell? ⟨rb,2,none⟩=some vc:=by
 have h1:=h.s
 have h2:=h.r
 refine ⟨?_,?_,?_,?_,?_⟩<;>simp [World.cell?,h1,h2]
theorem MB.acc (h:MB V sb ab rb v0 v1 va vc rc rt):V.cell? ⟨ab,0,none⟩=some va:=by
 have h1:=h.a
 simp [World.cell?,h1]
end
theorem vg (a:Option Addr)(n cap:Nat)(w:World)(hn:(n:Int)≤9223372036854775807)(hc:n≤cap)(hS:ByteSl w a n)(hT:Tab w)(hT2:Tab2 w)(hP:Pow w) :
  Calls Tryz.prog 5 #[.slice a n cap] w fun e w'=>e=.returned (.bool true)∧Below w.heap.size w w':=by
 by_cases hbig:1048576<(n:Int)
 ·go_enter Tryz.func5,Tryz.ntmps5
  go_wp2
  go_ret
  exact ⟨rfl,Below.refl _ _⟩
 have LY:=ae (fun V (hV:Below w.heap.size w V)=>(⟨hT.below hV hT.1,hT2.below hV hT2.1,hP.below hV lr⟩:Tab V∧Tab2 V∧Pow V))
 have DM:=ae (oo a n cap w (by omega) hc hS)
 clear hT hT2 hP hS hc
 go_enter Tryz.func5,Tryz.ntmps5
 go_wp2_with fail
 refine DM.out.mono ?_
 rintro e w1 ⟨a0,n0,c0,f0,a1,n1,c1,f1,t,rfl,hH,hB1⟩
 clear DM
 have hn0:=hH.hn0
 have hn1:=hH.hn1
 have HFT:=ae (show ∀ i,i<n1→bh (f1 i) from fun i hi=>by have:=(hH.fit i hi).1;unfold bh;omega)
 have HSZ:=ae (show ∀ i,i<n1→∀ j,j<(f1 i).actN→((f1 i).act j).s.size≤maxLen from fun i hi j hj=>by have:=(hH.fit i hi).2 j hj;unfold maxLen;omega)
 have A1:=(Below.refl w1.heap.size w1).alloc lr (.cells #[.slice a0 n0 c0,.slice a1 n1 c1] 26)
 have B1:=ae (hB1.trans (A1.mono hB1.size))
 have H1:=ae (hH.agr (dC A1 lr))
 have X1:Hid ((w1.alloc (.cells #[.slice a0 n0 c0,.slice a1 n1 c1] 26)).heap[w1.heap.size]?=some (.cells #[.slice a0 n0 c0,.slice a1 n1 c1] 26 (0,0))):=heap_alloc_new w1 _
 clear A1 hH hB1
 go_upto_region 4 with fail
 generalize w1.alloc (.cells #[.slice a0 n0 c0,.slice a1 n1 c1] 26)=W1 at B1 H1 X1 ⊢
 generalize w1.heap.size=sb at X1 ⊢
 have x1:=X1.out
 have z0:W1.cell? ⟨sb,0,none⟩=some (.slice a0 n0 c0):=by simp [World.cell?,x1]
 have z1:W1.cell? ⟨sb,1,none⟩=some (.slice a1 n1 c1):=by simp [World.cell?,x1]
 clear x1
 have hch:=pr ⟨n0,f0,n1,f1⟩ t
 have BCS:=ae (pu ⟨n0,f0,n1,f1⟩ t)
 have CM:=ae (oF (S:=⟨n0,f0,n1,f1⟩) (a0:=a0) (a1:=a1) (c0:=c0) (c1:=c1) W1 t (H1.out.sl W1 (Agr.refl _ _)).1 (H1.out.sl W1 (Agr.refl _ _)).2 (by show n0≤_;omega) (by show n1≤_;omega) HFT.out (LY.out W1 B1.out).1 (LY.out W1 B1.out).2.1 (LY.out W1 B1.out).2.2)
 have CI:=ae (fun V (hV:Below w.heap.size w V) (hA:Agr w.heap.size W1 V)=>mK (S:=⟨n0,f0,n1,f1⟩) (a0:=a0) (a1:=a1) (c0:=c0) (c1:=c1) V t ((H1.out.agr hA).sl V (Agr.refl _ _)).1 ((H1.out.agr hA).sl V (Agr.refl _ _)).2 (by show n0≤_;omega) (by show n1≤_;omega) HFT.out (LY.out V hV).1 (LY.out V hV).2.1 (LY.out V hV).2.2)
 have CS:=ae (fun V (hA:Agr w.heap.size W1 V)=>mM (S:=⟨n0,f0,n1,f1⟩) (a0:=a0) (a1:=a1) (c0:=c0) (c1:=c1) V t ((H1.out.agr hA).sl V (Agr.refl _ _)).1 ((H1.out.agr hA).sl V (Agr.refl _ _)).2 (by show n0≤_;omega) (by show n1≤_;omega) HFT.out HSZ.out)
 obtain ⟨bb,hbb⟩:∃ bb,bb=bp ⟨n0,f0,n1,f1⟩ t:=⟨_,rfl⟩
 rw [← hbb] at hch BCS CM CI CS
 clear hbb H1 HFT HSZ
 obtain ⟨S,hSS⟩:∃ S:Spc,S=⟨n0,f0,n1,f1⟩:=⟨_,rfl⟩
 rw [← hSS] at BCS
 have HSS:=ae hSS
 clear hSS
 obtain ⟨M,r0⟩:=bb
 obtain ⟨rc,rt,rl⟩:=r0
 simp only at hch BCS CM CI CS
 go_wp2_with fail
 refine CM.out.mono ?_
 rintro e w2 ⟨d,dc,R,rv,rfl,hD,hmap,⟨ra,rk,rfl,hown⟩,hB⟩
 rw [← HSS.out] at hmap
 have HN:=ae (show R.length=M.length by have:=congrArg List.length hmap;simpa [a8] using this)
 have hDs:=hD.deeds
 have hcap:=vf hD.own
 rw [hmap] at hDs
 clear CM hD hmap
 have A2:=((Below.refl w2.heap.size w2).alloc lr (.cells #[.slice d R.length dc] 59)).alloc (by simp) (.cells #[.int .i64 rc,.string rt,.slice ra rl.length rk] 41)
 have kR:=heap_alloc_new (w2.alloc (.cells #[.slice d R.length dc] 59)) (.cells #[.int .i64 rc,.string rt,.slice ra rl.length rk] 41)
 rw [show (w2.alloc (.cells #[.slice d R.length dc] 59)).heap.size=w2.heap.size+1 by simp] at kR
 have kA:((w2.alloc (.cells #[.slice d R.length dc] 59)).alloc (.cells #[.int .i64 rc,.string rt,.slice ra rl.length rk] 41)).heap[w2.heap.size]?=some (.cells #[.slice d R.length dc] 59 (0,0)):=(((Below.refl (w2.heap.size+1) (w2.alloc (.cells #[.slice d R.length dc] 59))).alloc (by simp) _).block w2.heap.size (Nat.lt_succ_self _)).trans (heap_alloc_new w2 _)
 have hl1:=az X1.out
 have M2:Hid (MB ((w2.alloc (.cells #[.slice d R.length dc] 59)).alloc (.cells #[.int .i64 rc,.string rt,.slice ra rl.length rk] 41)) sb w2.heap.size (w2.heap.size+1) (.slice a0 n0 c0) (.slice a1 n1 c1) (.slice d R.length dc) (.slice ra rl.length rk) rc rt):=⟨(A2.block sb (ll hl1 hB.size)).trans ((hB.block sb hl1).trans X1.out),kA,kR⟩
 have O2:=ae (own_below hown A2 lr)
 have D2:=ae (hDs.below A2 lr)
 have G2:Hid (Agr w.heap.size W1 ((w2.alloc (.cells #[.slice d R.length dc] 59)).alloc (.cells #[.int .i64 rc,.string rt,.slice ra rl.length rk] 41))):=(dC hB lr).trans (dC A2 lr)
 have B2:=ae (B1.out.trans ((hB.trans (A2.mono hB.size)).mono B1.out.size))
 clear A2 kR kA hl1 hB hown hDs z0 z1 X1 B1
 go_upto_region 5 with fail
 generalize (w2.alloc (.cells #[.slice d R.length dc] 59)).alloc (.cells #[.int .i64 rc,.string rt,.slice ra rl.length rk] 41)=W2 at M2 O2 D2 G2 B2 ⊢
 generalize w2.heap.size+1=rb at M2 ⊢
 generalize w2.heap.size=ab at M2 ⊢
 generalize R.length=N at M2 D2 HN hcap ⊢
 have SQ:Hid (∀ V,Below W2.heap.size W2 V→V.cell? ⟨sb,0,none⟩=some (.slice a0 n0 c0)∧V.cell? ⟨sb,1,none⟩=some (.slice a1 n1 c1)∧V.cell? ⟨rb,0,none⟩=some (.int .i64 rc)∧V.cell? ⟨rb,1,none⟩=some (.string rt)∧V.cell? ⟨rb,2,none⟩=some (.slice ra rl.length rk)):=fun V hV=>(M2.out.below hV).cells
 have AW:Hid (∀ V,Below W2.heap.size W2 V→Below w.heap.size w V∧Agr w.heap.size W1 V):=fun V hV=>⟨B2.out.trans (hV.mono B2.out.size),G2.out.trans (dC hV lr)⟩
 go_wp2_with fail
 refine wp_region_held_drew (S:=fun V=>V.cell? ⟨sb,0,none⟩=some (.slice a0 n0 c0)∧V.cell? ⟨sb,1,none⟩=some (.slice a1 n1 c1)∧V.cell? ⟨rb,0,none⟩=some (.int .i64 rc)∧V.cell? ⟨rb,1,none⟩=some (.string rt)∧V.cell? ⟨rb,2,none⟩=some (.slice ra rl.length rk)) (by as_aux_lemma=>kernel_rfl) (SQ.out _ br.drew) (fun hS=>?_)
 have HS:=ae hS
 clear hS
 have BA:Hid (Below W2.heap.size W2 W2.drew):=br.drew
 iterate 3
  refine aL 0 (v:=?_) rfl rfl (by as_aux_lemma=>kernel_rfl) (fun _ _ _ h=>h) rfl ?_ HS.out ?_
  rotate_left
  ·(intro wz hSw;obtain ⟨s0,s1,s2,s3,s4⟩:=hSw;go_simp)
   (try with_reducible rfl)
  (try simp only [Act.put,nzL])
 refine bm (i:=3) rfl (by as_aux_lemma=>kernel_rfl) (fun K hK=>?_)
 go_simp
 go_at_call 15
 refine (CI.out _ (AW.out _ BA.out).1 (AW.out _ BA.out).2).mono ?_
 rintro e w3 ⟨rv,rfl,⟨ra3,rk3,rfl,hown3⟩,hB⟩
 have BB:=ae (BA.out.trans (hB.mono BA.out.size))
 clear HS hB
 have HS:=ae (SQ.out _ BB.out)
 refine hK.out _ _ HS.out ?_
 clear hK K
 have O3:=ae hown3
 clear hown3
 refine bm (i:=4) rfl (by as_aux_lemma=>kernel_rfl) (fun K hK=>?_)
 go_simp
 go_at_call 14
 refine (jb rc rt rl (by omega) ra ra3 rk rk3 _ _ _ (own_below O2.out BB.out lr) O3.out).mono ?_
 rintro e w4 ⟨rfl,hB⟩
 clear O3
 have BC:=ae (BB.out.trans (hB.mono BB.out.size))
 clear HS hB
 have HS:=ae (SQ.out _ BC.out)
 refine hK.out _ _ HS.out ?_
 clear hK K
 (try simp only [Act.put,nzL])
 iterate 2
  refine kO 5 rfl rfl (by as_aux_lemma=>kernel_rfl) (fun K hK=>?_)
  go_simp
  refine hK.out _ _ HS.out ?_
  clear hK K
  (try simp only [Act.put,nzL])
 iterate 3
  refine aL 7 (v:=?_) rfl rfl (by as_aux_lemma=>kernel_rfl) (fun _ _ _ h=>h) rfl ?_ HS.out ?_
  rotate_left
  ·(intro wz hSw;obtain ⟨s0,s1,s2,s3,s4⟩:=hSw;go_simp)
   (try with_reducible rfl)
  (try simp only [Act.put,nzL])
 refine bm (i:=10) rfl (by as_aux_lemma=>kernel_rfl) (fun K hK=>?_)
 go_simp
 go_at_call 21
 refine (CS.out _ (AW.out _ BC.out).2).mono ?_
 rintro e w5 ⟨rv,rfl,⟨ra5,rk5,rfl,hown5⟩,hB⟩
 have BD:=ae (BC.out.trans (hB.mono BC.out.size))
 clear HS hB
 have HS:=ae (SQ.out _ BD.out)
 refine hK.out _ _ HS.out ?_
 clear hK K
 have O5:=ae hown5
 clear hown5
 refine bm (i:=11) rfl (by as_aux_lemma=>kernel_rfl) (fun K hK=>?_)
 go_simp
 go_at_call 14
 refine (jb rc rt rl (by omega) ra ra5 rk rk5 _ _ _ (own_below O2.out BD.out lr) O5.out).mono ?_
 rintro e w6 ⟨rfl,hB⟩
 clear O5
 have BE:=ae (BD.out.trans (hB.mono BD.out.size))
 clear HS hB
 have HS:=ae (SQ.out _ BE.out)
 refine hK.out _ _ HS.out ?_
 clear hK K
 (try simp only [Act.put,nzL])
 iterate 2
  refine kO 12 rfl rfl (by as_aux_lemma=>kernel_rfl) (fun K hK=>?_)
  go_simp
  refine hK.out _ _ HS.out ?_
  clear hK K
  (try simp only [Act.put,nzL])
 refine wpAnyH_done (by as_aux_lemma=>kernel_rfl) ?_ _
 clear SQ HS O2 CI CS BA BB BC BD AW G2
 have cs:=(M2.out.below BE.out).cells
 have ac:=(M2.out.below BE.out).acc
 obtain ⟨-,-,r0,-,-⟩:=cs
 rcases BCS.out with ⟨rfl,hcode⟩ | ⟨M',e,hSO,hnm,hlies,hbe⟩
 ·obtain rfl:N=0:=HN.out
  go_wp2
  go_ret
  exact ⟨rfl,B2.out.trans (BE.out.mono B2.out.size)⟩
 obtain ⟨rfl,hres⟩:=Prod.mk.inj hbe
 have hrc:rc=(bV e).code:=congrArg ResL.code hres
 have hrt:rt=(bV e).text:=congrArg ResL.text hres
 obtain ⟨hac,hpos,hlast,hname,hPG,hRn⟩:=uA hSO hnm hlies
 have HT:=ae (tG hPG (List.mem_of_getElem? hlast))
 have h5:¬ 5<rc:=by have:=HT.out.1;omega
 rw [← hrc,← hrt] at HT
 have HPG:=ae hPG
 have HRN:=ae hRn
 have HSO:=ae hSO
 have HLA:=ae hlast
 have HNM:=ae hname
 obtain ⟨m,hm⟩:∃ m,N=m+1:=⟨N - 1,by have:=HN.out;omega⟩
 subst hm
 have HAC:Hid (gR (dF (a8 S M)) (m+1)=(0,0)):=by
  have h:=hac
  rw [← HN.out] at h
  exact h
 have HFI:=ae (fun i (hi:i<m+1)=>vZ HSO.out HPG.out (show i<M.length by rw [← HN.out];exact hi))
 have hm4:m+1≤400:=by have:=kF hSO hlies;have:=HN.out;omega
 clear hac hpos hlast hname hPG hRn hSO hnm hlies hbe hres hrc hrt BCS hch
 go_wp2_with fail
 refine (oR d (m+1) dc (dF (a8 S M)) _ (by omega) (D2.out.below BE.out lr) (by omega) HFI.out (LY.out _ (B2.out.trans (BE.out.mono B2.out.size))).1).mono ?_
 rw [HAC.out]
 rintro e' w7 ⟨rfl,hB⟩
 have BF:=ae (BE.out.trans (hB.mono BE.out.size))
 clear hB BE ac r0 HAC HFI
 have ac:=(M2.out.below BF.out).acc
 have HLM:Hid (M[m]?=some e):=by
  have h:=HLA.out
  rw [← HN.out,Nat.add_sub_cancel] at h
  exact h
 have HRT:Hid ((dF (a8 S M) (m+1 - 1)).name=t):=by
  have h:(dF (a8 S M) m).name=e.name:=by rw [dW HLM.out];rfl
  rw [HNM.out] at h
  exact h
 clear HLA HNM h5
 go_wp2_with fail
 refine (tF d (m+1) dc (dF (a8 S M)) _ (by omega) (by omega) (D2.out.below BF.out lr)).mono ?_
 rw [HRT.out]
 rintro e' w8 ⟨rfl,hB⟩
 have BG:=ae (BF.out.trans (hB.mono BF.out.size))
 clear hB BF ac HRT
 rcases D2.out with h | ⟨b,off,rfl,hrow⟩
 ·omega
 have DR:=ae hrow
 clear hrow D2
 have ac:=(M2.out.below BG.out).acc
 obtain ⟨-,-,r0,r1,-⟩:=(M2.out.below BG.out).cells
 obtain ⟨e0,e1,e2,e3,⟨x4,y4,e4,i4⟩,⟨x5,y5,e5,i5⟩⟩:=(DR.out.below BG.out lr).2 m (by omega)
 rw [dW HLM.out] at e0 e1 e2 e3 e4 e5 i4 i5
 replace e0:w8.cell? ⟨b,off+m*6,none⟩=some (.string e.name):=e0
 replace e1:w8.cell? ⟨b,off+m*6+1,none⟩=some (.int .i64 e.kind):=e1
 replace e2:w8.cell? ⟨b,off+m*6+2,none⟩=some (.int .i64 e.code):=e2
 replace e3:w8.cell? ⟨b,off+m*6+3,none⟩=some (.string e.text):=e3
 replace e5:w8.cell? ⟨b,off+m*6+5,none⟩=some (.slice x5 e.looks.length y5):=e5
 have I4:=ae i4
 have I5:=ae i5
 clear i4 i5
 have hbl:=(DR.out.below BG.out lr).1
 go_upto_region 13 with fail
 have A9:=(Below.refl w8.heap.size w8).alloc lr (.cells #[.string e.name,.int .i64 e.kind,.int .i64 e.code,.string e.text,.slice x4 (aH S M e).actN y4,.slice x5 e.looks.length y5] 67)
 have B9:=ae (BG.out.trans (A9.mono BG.out.size))
 have L9:Hid ((w8.alloc (.cells #[.string e.name,.int .i64 e.kind,.int .i64 e.code,.string e.text,.slice x4 (aH S M e).actN y4,.slice x5 e.looks.length y5] 67)).heap[w8.heap.size]?=some (.cells #[.string e.name,.int .i64 e.kind,.int .i64 e.code,.string e.text,.slice x4 (aH S M e).actN y4,.slice x5 e.looks.length y5] 67 (0,0))):=heap_alloc_new w8 _
 clear A9 e0 e1 e2 e3 e4 e5 ac r0 r1
 generalize w8.alloc (.cells #[.string e.name,.int .i64 e.kind,.int .i64 e.code,.string e.text,.slice x4 (aH S M e).actN y4,.slice x5 e.looks.length y5] 67)=W9 at B9 L9 ⊢
 generalize w8.heap.size=lb at L9 ⊢
 go_cut [117] (fun sv wx=>sv=.bool false∧W9=wx)
 case first =>
  have ac:=(M2.out.below B9.out).acc
  obtain ⟨-,-,r0,r1,-⟩:=(M2.out.below B9.out).cells
  have l9:=L9.out
  have q1:W9.cell? ⟨lb,1,none⟩=some (.int .i64 e.kind):=by simp [World.cell?,l9]
  have q2:W9.cell? ⟨lb,2,none⟩=some (.int .i64 e.code):=by simp [World.cell?,l9]
  have q3:W9.cell? ⟨lb,3,none⟩=some (.string e.text):=by simp [World.cell?,l9]
  clear l9
  rcases HT.out.2 with ⟨k,k1⟩ | ⟨k,k1⟩ | ⟨k,k1,k2⟩
  ·rw [k] at q1
   rw [k1] at r1
   clear k k1
   go_wp2
   go_meet
   exact ⟨rfl,rfl⟩
  ·rw [k] at q1
   rw [k1] at r0
   clear k k1
   go_wp2
   go_meet
   exact ⟨rfl,rfl⟩
  ·rw [k] at q1
   rw [k1] at r0
   rw [k2] at r1
   clear k k1 k2
   go_wp2
   go_meet
   exact ⟨rfl,rfl⟩
 case rest =>
 obtain ⟨rfl,rfl⟩:=hcut
 clear L9 BG HT
 go_wp2_with fail
 go_loopw [10] (fun i wr=>∃ k:Nat,k≤m+1∧i=.int .i64 k∧Hid (Below W2.heap.size W2 wr)) (fun i _=>m+1 - (intOf i).toNat)
 case atStart=>exact ⟨0,by omega,rfl,B9.out⟩
 case round =>
  clear B9
  obtain ⟨k,hk,rfl,BR⟩:=hrel
  by_cases hlt:k<m+1
  ·obtain ⟨x,hx⟩:∃ x,M[k]?=some x:=⟨M[k]'(by have:=HN.out;omega),List.getElem?_eq_getElem _⟩
   have HX:=ae hx
   have hll:=(HPG.out.ents x (List.mem_of_getElem? hx)).looks
   clear hx
   have ac:=(M2.out.below BR.out).acc
   obtain ⟨-,-,r0,r1,-⟩:=(M2.out.below BR.out).cells
   obtain ⟨e0,e1,e2,e3,⟨x4,y4,e4,i4⟩,⟨x5,y5,e5,i5⟩⟩:=(DR.out.below BR.out lr).2 k (by omega)
   rw [dW HX.out] at e0 e1 e2 e3 e4 e5 i4 i5
   replace e0:wr.cell? ⟨b,off+k*6,none⟩=some (.string x.name):=e0
   replace e1:wr.cell? ⟨b,off+k*6+1,none⟩=some (.int .i64 x.kind):=e1
   replace e2:wr.cell? ⟨b,off+k*6+2,none⟩=some (.int .i64 x.code):=e2
   replace e3:wr.cell? ⟨b,off+k*6+3,none⟩=some (.string x.text):=e3
   replace e5:wr.cell? ⟨b,off+k*6+5,none⟩=some (.slice x5 x.looks.length y5):=e5
   have I4:=ae i4
   have I5:=ae i5
   clear i4 i5
   have hbl:=(DR.out.below BR.out lr).1
   have hlt2:(k:Int)<(m:Int)+1:=by omega
   go_upto_region 19 with fail
   have A1:=(Below.refl wr.heap.size wr).alloc lr (.cells #[.string x.name,.int .i64 x.kind,.int .i64 x.code,.string x.text,.slice x4 (aH S M x).actN y4,.slice x5 x.looks.length y5] 67)
   have BA:=ae (BR.out.trans (A1.mono BR.out.size))
   have LA:Hid ((wr.alloc (.cells #[.string x.name,.int .i64 x.kind,.int .i64 x.code,.string x.text,.slice x4 (aH S M x).actN y4,.slice x5 x.looks.length y5] 67)).heap[wr.heap.size]?=some (.cells #[.string x.name,.int .i64 x.kind,.int .i64 x.code,.string x.text,.slice x4 (aH S M x).actN y4,.slice x5 x.looks.length y5] 67 (0,0))):=heap_alloc_new wr _
   have JA:=ae (I4.out.below A1 lr)
   have KA:=ae (I5.out.below A1 lr)
   clear A1 e0 e1 e2 e3 e4 e5 ac r0 r1 I4 I5 BR hbl
   generalize wr.alloc (.cells #[.string x.name,.int .i64 x.kind,.int .i64 x.code,.string x.text,.slice x4 (aH S M x).actN y4,.slice x5 x.looks.length y5] 67)=WA at BA LA JA KA ⊢
   generalize wr.heap.size=db at LA ⊢
   have hdb:=az LA.out
   go_wp2_with fail
   go_loopw [12] (fun i wx=>∃ j:Nat,j≤k∧i=.int .i64 j∧Hid (Below WA.heap.size WA wx)) (fun i _=>k - (intOf i).toNat)
   case atStart=>exact ⟨0,by omega,rfl,Below.refl _ _⟩
   case round =>
    obtain ⟨j,hj,rfl,BX⟩:=hrel
    have BY:=ae (BA.out.trans (BX.out.mono BA.out.size))
    by_cases hlj:j<k
    ·have ac:=(M2.out.below BY.out).acc
     have e0:=((DR.out.below BY.out lr).2 j (by omega)).1
     have hbl:=(DR.out.below BY.out lr).1
     have la:=(BX.out.block db hdb).trans LA.out
     have d0:wr.cell? ⟨db,0,none⟩=some (.string x.name):=by simp [World.cell?,la]
     have hdl:=az la
     have hne:=tH HPG.out HX.out hlj
     have hj1:(j:Int)<(k:Int):=by omega
     have hj2:(j:Int)<(m:Int)+1:=by omega
     clear la
     generalize (dF (a8 S M) j).name=nj at e0 hne
     go_wp2_with fail
     go_quiet (fail)
     have B1:=ae (below_drewN BX.out nq)
     clear e0 ac d0 hne BX BY
     generalize wr.drewN nq=W at B1 ⊢
     go_wp2
     exact ⟨⟨j+1,by omega,by go_num,B1.out⟩,by simp [intOf];omega⟩
    ·obtain rfl:j=k:=by omega
     generalize wr=WB at BX BY ⊢
     have HLB:=ae ((BX.out.block db hdb).trans LA.out)
     have HPI:Hid (x.kind=3→∃ pb po,x4=some ⟨pb,po,none⟩∧RowIns WB pb po (aH S M x).actN (aH S M x).act):=fun h3=>by
      rcases JA.out.below BX.out lr with h | ⟨pb,po,e,h⟩
      ·have:=(lB HSO.out HPG.out HX.out h3).1
       omega
      ·exact ⟨pb,po,e,h⟩
     have KB:=ae (KA.out.below BX.out lr)
     clear LA JA KA hdb BX
     have hdb:=az HLB.out
     have RB:Hid ((WB.alloc (.cells #[] 75)).ownsRow WB.heap.size 75 3 (.slice (some ⟨WB.heap.size,0,none⟩) 0 0) 0 (d9 [])):=⟨by simp [d9],.inr ⟨WB.heap.size,0,#[],rfl,Nat.le_refl _,heap_alloc_new WB _,Nat.le_refl _,by unfold maxLen;omega,by simp,by simp [d9]⟩⟩
     have B0:=ae ((Below.refl WB.heap.size WB).alloc lr (.cells #[] 75))
     go_wp2_with fail
     generalize WB.alloc (.cells #[] 75)=WC at RB B0 ⊢
     go_loopw [13,14] (fun rv kv wz=>∃ (q g c:Nat),q≤x.looks.length∧rv=.slice (some ⟨g,0,none⟩) q c∧kv=.int .i64 q∧Hid (wz.ownsRow WB.heap.size 75 3 (.slice (some ⟨g,0,none⟩) q c) q (d9 ((x.looks.take q).map (bn M))))∧Hid (Below WB.heap.size WB wz)) (fun _ kv _=>x.looks.length - (intOf kv).toNat)
     case atStart=>exact ⟨0,_,_,by omega,rfl,rfl,RB.out,B0.out⟩
     case round =>
      clear RB B0
      obtain ⟨q,g,c,hq,rfl,rfl,RQ,BQ⟩:=hrel
      have BZ:=ae (BY.out.trans (BQ.out.mono BY.out.size))
      have hyl:((x.looks.take q).map (bn M)).length=q:=by rw [List.length_map,List.length_take,Nat.min_eq_left hq]
      have HYL:=ae hyl
      clear hyl
      have la:=(BQ.out.block db hdb).trans HLB.out
      have d1:wr.cell? ⟨db,1,none⟩=some (.int .i64 x.kind):=by simp [World.cell?,la]
      have d2:wr.cell? ⟨db,2,none⟩=some (.int .i64 x.code):=by simp [World.cell?,la]
      have d3:wr.cell? ⟨db,3,none⟩=some (.string x.text):=by simp [World.cell?,la]
      have d4:wr.cell? ⟨db,4,none⟩=some (.slice x4 (aH S M x).actN y4):=by simp [World.cell?,la]
      have d5:wr.cell? ⟨db,5,none⟩=some (.slice x5 x.looks.length y5):=by simp [World.cell?,la]
      have hdl:=az la
      clear la
      have RR:Hid (RowReply wr g 0 q (yL ((x.looks.take q).map (bn M)))):=by
       have h:=RQ.out
       generalize (x.looks.take q).map (bn M)=ys at h HYL ⊢
       have hq2:=HYL.out
       subst hq2
       exact pN h
      obtain ⟨i0',hi,hy0,hy1,hy2⟩:=info_parts (show (Tryz.prog.info? 75).map (fun i=>(i.zero,i.size,i.bytes))=some (some (.agg #[.bool false,.int .i64 0,.string ⟨#[]⟩]),3,32) by kernel_rfl)
      by_cases hlq:q<x.looks.length
      ·obtain ⟨l,hl⟩:∃ l,x.looks[q]?=some l:=⟨x.looks[q],List.getElem?_eq_getElem hlq⟩
       have h3:=kN HPG.out (List.mem_of_getElem? HX.out) hlq
       obtain ⟨pb,po,hx4,hrow⟩:=HPI.out h3
       have hap:=lB HSO.out HPG.out HX.out h3
       obtain ⟨cd,tx,st,hT⟩:=wj HSO.out HPG.out HRN.out HX.out hl
       obtain ⟨hrk,hat,hro⟩:=pZ HPG.out HX.out (List.mem_of_getElem? hl)
       have HTM:=ae (ve (M:=M) x hl)
       have CN:=ae (iU pb po (aH S M x).actN y4 g 0 q c (aH S M x).act (yL ((x.looks.take q).map (bn M))) wr (by omega) (hrow.below BQ.out lr) RR.out (LY.out _ (B2.out.trans (BZ.out.mono B2.out.size))).1 (LY.out _ (B2.out.trans (BZ.out.mono B2.out.size))).2.1 (LY.out _ (B2.out.trans (BZ.out.mono B2.out.size))).2.2)
       rw [hT] at CN
       simp only [Turn.v] at CN
       replace CN:Hid (Calls Tryz.prog 32 #[.agg #[.slice (some ⟨pb,po,none⟩) (aH S M x).actN y4],.slice (some ⟨g,0,none⟩) q c] wr fun e w'=>e=.returned (.agg #[.bool false,.int .i64 cd,.string tx,.bool (lkD M l).ask,.string (lkD M l).name,.int .i64 st])∧Below wr.heap.size wr w'):=CN
       rw [hx4] at d4
       obtain ⟨kb,ko,hx5,hkr⟩:∃ kb ko,x5=some ⟨kb,ko,none⟩∧RowLink WB kb ko x.looks.length (aH S M x).links:=by
        rcases KB.out with h | ⟨kb,ko,e,h⟩
        ·have h0:x.looks.length=0:=h
         omega
        ·exact ⟨kb,ko,e,h⟩
       rw [hx5] at d5
       have hlb:=HLB.out
       rw [hx5] at hlb
       have HLC:=ae hlb
       clear hlb
       have hkq:=hkr.2 q hlq
       rw [show (aH S M x).links q=lkD M l from kE hl] at hkq
       have HKL:=ae (hkq.below BQ.out hkr.1)
       have HKB:=ae hkq
       have hkb:=hkr.1
       have hkl:kb<wr.heap.size:=ll hkr.1 BQ.out.size
       have HRK:=ae hrk
       have HAT:Hid ((lkD M l).ask=true→0≤(lkD M l).at_∧(lkD M l).at_.toNat<m+1):=fun h=>by have:=hat h;have:=HN.out;omega
       clear hrow hT hx4 hx5 hap hkr hkq hrk hat hro h3 hl RR
       generalize bn M l=r at HRK HTM
       generalize lkD M l=lk at CN HKL HRK HAT HKB
       have SQ:Hid (∀ V,Below WB.heap.size WB V→V.cell? ⟨ab,0,none⟩=some (.slice (some ⟨b,off,none⟩) (m+1) dc)∧V.cell? ⟨db,5,none⟩=some (.slice (some ⟨kb,ko,none⟩) x.looks.length y5)∧V.cell? ⟨kb,ko+q*4,none⟩=some (.string lk.name)∧V.cell? ⟨kb,ko+q*4+1,none⟩=some (.bool lk.ask)∧V.cell? ⟨kb,ko+q*4+2,none⟩=some (.bool lk.has)∧V.cell? ⟨kb,ko+q*4+3,none⟩=some (.int .i64 lk.at_)):=fun V hV=>⟨(M2.out.below (BY.out.trans (hV.mono BY.out.size))).acc,by have h:=(hV.block db hdb).trans HLC.out;simp [World.cell?,h],HKB.out.below hV hkb⟩
       go_wp2_with fail
       refine CN.out.mono ?_
       rintro e' w3 ⟨rfl,hB⟩
       have A3:=(Below.refl w3.heap.size w3).alloc lr (.cells #[.bool false,.int .i64 cd,.string tx,.bool lk.ask,.string lk.name,.int .i64 st] 70)
       have T3:Hid ((w3.alloc (.cells #[.bool false,.int .i64 cd,.string tx,.bool lk.ask,.string lk.name,.int .i64 st] 70)).heap[w3.heap.size]?=some (.cells #[.bool false,.int .i64 cd,.string tx,.bool lk.ask,.string lk.name,.int .i64 st] 70 (0,0))):=heap_alloc_new w3 _
       have B3:=ae (hB.trans (A3.mono hB.size))
       have d5:=(B3.out.cell (p:=⟨db,5,none⟩) hdl).trans d5
       have hdl3:=ll hdl B3.out.size
       have RQ3:=ae (own_below RQ.out B3.out lr)
       have HK3:=ae (HKL.out.below B3.out hkl)
       have hkl3:=ll hkl B3.out.size
       clear d1 d2 d3 d4 hB A3 CN RQ HKL hdl hkl
       go_upto_region 29 with fail
       generalize w3.alloc (.cells #[.bool false,.int .i64 cd,.string tx,.bool lk.ask,.string lk.name,.int .i64 st] 70)=W3 at T3 B3 d5 hdl3 RQ3 HK3 hkl3 ⊢
       generalize w3.heap.size=tb at T3 ⊢
       have t9:=T3.out
       have t0:W3.cell? ⟨tb,0,none⟩=some (.bool false):=by simp [World.cell?,t9]
       have t3:W3.cell? ⟨tb,3,none⟩=some (.bool lk.ask):=by simp [World.cell?,t9]
       have t4:W3.cell? ⟨tb,4,none⟩=some (.string lk.name):=by simp [World.cell?,t9]
       have tl:=az t9
       clear t9 T3
       obtain ⟨n0,n1,n2,n3⟩:=HK3.out
       have hq2:(q:Int)<(x.looks.length:Int):=by omega
       go_wp2_with fail
       go_quiet (fail)
       have B4:=ae (below_drewN B3.out nq)
       have RQ4:=ae (own_below RQ3.out (below_drewN br nq) lr)
       have B5:=ae (BZ.out.trans (B4.out.mono BZ.out.size))
       have d6:(W3.drewN nq).cell? ⟨db,5,none⟩=some (.slice (some ⟨kb,ko,none⟩) x.looks.length y5):=((below_drewN (Below.refl W3.heap.size W3) nq).cell (p:=⟨db,5,none⟩) hdl3).trans d5
       have HK4:=ae (HK3.out.below (below_drewN (Below.refl W3.heap.size W3) nq) hkl3)
       have hk4:=ll hkl3 (below_drewN (Below.refl W3.heap.size W3) nq).size
       have hd4:=ll hdl3 (below_drewN (Below.refl W3.heap.size W3) nq).size
       clear n0 n1 n2 n3 t0 t3 t4 tl d5 HK3 RQ3 B3 hdl3 hkl3
       go_upto_region 31 with fail
       generalize W3.drewN nq=W4 at B4 RQ4 B5 d6 HK4 hk4 hd4 ⊢
       go_wp2_with fail
       refine wp_region_held_drew (S:=fun V=>V.cell? ⟨ab,0,none⟩=some (.slice (some ⟨b,off,none⟩) (m+1) dc)∧V.cell? ⟨db,5,none⟩=some (.slice (some ⟨kb,ko,none⟩) x.looks.length y5)∧V.cell? ⟨kb,ko+q*4,none⟩=some (.string lk.name)∧V.cell? ⟨kb,ko+q*4+1,none⟩=some (.bool lk.ask)∧V.cell? ⟨kb,ko+q*4+2,none⟩=some (.bool lk.has)∧V.cell? ⟨kb,ko+q*4+3,none⟩=some (.int .i64 lk.at_)) (by as_aux_lemma=>kernel_rfl) (SQ.out _ (BQ.out.trans (B4.out.mono BQ.out.size)).drew) (fun hS=>?_)
       have HS:=ae hS
       clear hS
       have BD:Hid (Below W4.heap.size W4 W4.drew):=br.drew
       have BB:=ae (BQ.out.trans (B4.out.mono BQ.out.size))
       iterate 7
        refine aL 0 (v:=?_) rfl rfl (by as_aux_lemma=>kernel_rfl) (fun _ _ _ h=>h) rfl ?_ HS.out ?_
        rotate_left
        ·(intro wz hSw;obtain ⟨s0,s1,s2,s3,s4,s5⟩:=hSw;go_simp)
         (try with_reducible rfl)
        (try simp only [Act.put,nzL])
       refine bm (i:=7) rfl (by as_aux_lemma=>kernel_rfl) (fun K hK=>?_)
       go_simp
       go_at_call 33
       refine (rP (some ⟨b,off,none⟩) (m+1) dc (dF (a8 S M)) lk _ (RowDeed.sl (DR.out.below (B5.out.trans (BD.out.mono B5.out.size)) lr)) HAT.out).mono ?_
       rw [HRK.out]
       rintro e' w5 ⟨rfl,hB⟩
       have BE:=ae (BD.out.trans (hB.mono BD.out.size))
       clear HS hB
       have hwb:=BB.out.size
       have hw5:=BE.out.size
       have BF:=ae (BB.out.trans (BE.out.mono hwb))
       have HS:=ae (SQ.out _ BF.out)
       refine hK.out _ _ HS.out ?_
       clear hK K
       (try simp only [Act.put,nzL])
       have A5:=ae (BE.out.alloc hw5 (.cells #[.bool r.has,.int .i64 r.code,.string r.text] 75))
       have BG:=ae (BB.out.trans (A5.out.mono hwb))
       have OW:=ae (own_below RQ4.out A5.out lr)
       refine bm (i:=8) rfl (by as_aux_lemma=>kernel_rfl) (fun K hK=>?_)
       go_simp
       clear HS
       have HS:=ae (SQ.out _ BG.out)
       refine hK.out _ _ HS.out ?_
       clear hK K
       (try simp only [Act.put,nzL])
       have hz5:(w5.alloc (.cells #[.bool r.has,.int .i64 r.code,.string r.text] 75)).heap.size=w5.heap.size+1:=by simp
       refine bm (i:=9) rfl (by as_aux_lemma=>kernel_rfl) (fun K hK=>?_)
       refine aK rfl (.tmp 180) (.tmp 188) 68 rfl WB.heap.size 75 i0' (.agg #[.bool false,.int .i64 0,.string ⟨#[]⟩]) 3 32 Tryz.underlying68 hi hy0 hy1 hy2 rfl (by decide) (.slice (some ⟨g,0,none⟩) q c) q (d9 ((x.looks.take q).map (bn M))) (by simp [Act.eval]) OW.out ⟨w5.heap.size,0,none⟩ 1 1 [.bool r.has,.int .i64 r.code,.string r.text] (by simp [Act.eval]) rfl (bQ w5 #[.bool r.has,.int .i64 r.code,.string r.text] _) (by simp [Value.oneCell']) (by unfold maxLen;omega) (by omega) (by omega) ?_
       intro v' w6 hown hgrow _
       obtain ⟨g',c',rfl⟩:=fg hown (by omega)
       have hgl:=(af OW.out g rfl).1
       have B6:=ae (BG.out.trans (Below.grown (Below.refl WB.heap.size _) hgrow (by omega) (fun k' e=>by have e2:=Option.some.inj (show some g=some k' from e);omega)))
       clear HS
       have HS:=ae (SQ.out _ B6.out)
       refine hK.out _ _ HS.out ?_
       clear hK K
       (try simp only [Act.put,nzL])
       refine bm (i:=10) rfl (by as_aux_lemma=>kernel_rfl) (fun K hK=>?_)
       go_simp
       refine hK.out _ _ HS.out ?_
       clear hK K
       (try simp only [Act.put,nzL])
       refine wpAnyH_done (by as_aux_lemma=>kernel_rfl) ?_ _
       have O6:Hid (w6.ownsRow WB.heap.size 75 3 (.slice (some ⟨g',0,none⟩) (q+1) c') (q+1) (d9 ((x.looks.take (q+1)).map (bn M)))):=by
        rw [HTM.out,ou]
        exact hown
       clear hown hgrow HS OW A5 BG BF BE RQ4 hz5
       go_wp2
       exact ⟨⟨q+1,g',c',by omega,by go_num,by go_num,O6.out,B6.out⟩,by simp [intOf];omega⟩
      ·obtain rfl:q=x.looks.length:=by omega
       by_cases h3:x.kind=3
       ·obtain ⟨pb,po,hx4,hrow⟩:=HPI.out h3
        have hap:=lB HSO.out HPG.out HX.out h3
        obtain ⟨ak,nm,st,hT⟩:=vd HSO.out HPG.out HRN.out HX.out h3
        have CN:=ae (iU pb po (aH S M x).actN y4 g 0 x.looks.length c (aH S M x).act (yL ((x.looks.take x.looks.length).map (bn M))) wr (by omega) (hrow.below BQ.out lr) RR.out (LY.out _ (B2.out.trans (BZ.out.mono B2.out.size))).1 (LY.out _ (B2.out.trans (BZ.out.mono B2.out.size))).2.1 (LY.out _ (B2.out.trans (BZ.out.mono B2.out.size))).2.2)
        rw [hT] at CN
        simp only [Turn.v] at CN
        rw [hx4] at d4
        rw [h3] at d1
        clear hrow hT hx4 h3 hap
        go_wp2_with fail
        refine CN.out.mono ?_
        rintro e' w3 ⟨rfl,hB⟩
        have A3:=(Below.refl w3.heap.size w3).alloc lr (.cells #[.bool true,.int .i64 x.code,.string x.text,.bool ak,.string nm,.int .i64 st] 70)
        have T3:Hid ((w3.alloc (.cells #[.bool true,.int .i64 x.code,.string x.text,.bool ak,.string nm,.int .i64 st] 70)).heap[w3.heap.size]?=some (.cells #[.bool true,.int .i64 x.code,.string x.text,.bool ak,.string nm,.int .i64 st] 70 (0,0))):=heap_alloc_new w3 _
        have B3:=ae (hB.trans (A3.mono hB.size))
        have b2:=(B3.out.cell (p:=⟨db,2,none⟩) hdl).trans d2
        have b3:=(B3.out.cell (p:=⟨db,3,none⟩) hdl).trans d3
        have bl:=ll hdl B3.out.size
        clear d1 d2 d3 d4 d5 hB A3 CN
        go_upto_region 34 with fail
        generalize w3.alloc (.cells #[.bool true,.int .i64 x.code,.string x.text,.bool ak,.string nm,.int .i64 st] 70)=W3 at T3 B3 b2 b3 bl ⊢
        generalize w3.heap.size=tb at T3 ⊢
        have t9:=T3.out
        have t0:W3.cell? ⟨tb,0,none⟩=some (.bool true):=by simp [World.cell?,t9]
        have t1:W3.cell? ⟨tb,1,none⟩=some (.int .i64 x.code):=by simp [World.cell?,t9]
        have t2:W3.cell? ⟨tb,2,none⟩=some (.string x.text):=by simp [World.cell?,t9]
        have tl:=az t9
        clear t9
        go_wp2
        exact ⟨⟨j+1,by omega,by go_num,BZ.out.trans (B3.out.mono BZ.out.size)⟩,by simp [intOf];omega⟩
       ·have h3b:(x.kind == 3)=false:=by simpa using h3
        go_wp2
        exact ⟨⟨j+1,by omega,by go_num,BZ.out⟩,by simp [intOf];omega⟩
  ·obtain rfl:k=m+1:=by omega
   have ac:=(M2.out.below BR.out).acc
   obtain ⟨-,-,r0,r1,-⟩:=(M2.out.below BR.out).cells
   go_wp2
   go_ret
   exact ⟨rfl,B2.out.trans (BR.out.mono B2.out.size)⟩
end Go.Proofs.YtkophfgkcijjkaaGreatDoor.Vp
