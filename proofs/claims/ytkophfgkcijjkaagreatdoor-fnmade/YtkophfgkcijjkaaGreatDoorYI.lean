import Derived.Test.YtkophfgkcijjkaaGreatDoorYF
import Derived.Deep.DeepCutAuto
import Derived.Deep.CutBlock
set_option maxRecDepth 1000000
set_option maxHeartbeats 8000000
namespace Go.Proofs.YtkophfgkcijjkaaGreatDoor.Vp
open RowKit
theorem rz (pb po cnt cap1 place steps looks:Nat)(f:Nat→Ins)(a:Option Addr)(s:List ByteArray)(cap b2 o2 n cap2 base:Nat)(y:Nat→aw)(w:World)
  (hP:RowIns w pb po cnt f) (hY:RowReply w b2 o2 n y) (hO:w.ownsRow base 9 1 (.slice a s.length cap) s.length (strs s)) (hp:place≤2000) (hst:steps≤2000) (hlk:looks≤200) (hs:s.length≤50) (hle:∀ x∈s,x.size≤2000) (hok:cG f cnt=true) :
  Calls Tryz.prog 237 #[.agg #[.slice (some ⟨pb,po,none⟩) cnt cap1],ce place (.slice a s.length cap) steps looks false 0 ⟨#[]⟩ false ⟨#[]⟩ false,.slice (some ⟨b2,o2,none⟩) n cap2] w fun e w'=>∃ v,e=.returned v∧SoIs w' w.heap.size v (ez f cnt y n place steps looks s)∧Below w.heap.size w w':=by
 obtain ⟨so,hso⟩:∃ so,so=ez f cnt y n place steps looks s:=⟨_,rfl⟩
 rw [← hso]
 have S0:=ae hso
 clear hso
 have HP:=ae hP
 have HY:=ae hY
 have HO:=ae hO
 have HK:=ae hok
 have HL:=ae hle
 clear hP hY hO hok hle
 have A0:=ae ((((Below.refl w.heap.size w).alloc lr (.cells #[.slice (some ⟨pb,po,none⟩) cnt cap1] 31)).alloc (by simp) (.cells #[.int .i64 place,.slice a s.length cap,.int .i64 steps,.int .i64 looks,.bool false,.int .i64 0,.string ⟨#[]⟩,.bool false,.string ⟨#[]⟩,.bool false] 297)).alloc (by simp<;>omega) (.cells #[.int .i64 0,.slice none 0 0,.int .i64 0,.int .i64 0,.bool false,.int .i64 0,.string ⟨#[]⟩,.bool false,.string ⟨#[]⟩,.bool false] 297))
 have R0:=ae ((cz (w.alloc (.cells #[.slice (some ⟨pb,po,none⟩) cnt cap1] 31)) (.int .i64 place) (.slice a s.length cap) (.int .i64 steps) (.int .i64 looks) (.bool false) (.int .i64 0) (.string ⟨#[]⟩) (.bool false) (.string ⟨#[]⟩) (.bool false) 297 (w.heap.size+1) (by simp)).al (.cells #[.int .i64 0,.slice none 0 0,.int .i64 0,.int .i64 0,.bool false,.int .i64 0,.string ⟨#[]⟩,.bool false,.string ⟨#[]⟩,.bool false] 297))
 have Z0:=ae (cz ((w.alloc (.cells #[.slice (some ⟨pb,po,none⟩) cnt cap1] 31)).alloc (.cells #[.int .i64 place,.slice a s.length cap,.int .i64 steps,.int .i64 looks,.bool false,.int .i64 0,.string ⟨#[]⟩,.bool false,.string ⟨#[]⟩,.bool false] 297)) (.int .i64 0) (.slice none 0 0) (.int .i64 0) (.int .i64 0) (.bool false) (.int .i64 0) (.string ⟨#[]⟩) (.bool false) (.string ⟨#[]⟩) (.bool false) 297 (w.heap.size+1+1) (by simp))
 go_enter Tryz.func237,Tryz.ntmps237
 go_wp2_with fail
 refine (lE place (by omega) _).mono ?_
 rintro e w1 ⟨rfl,hB1⟩
 have hD:(⟨(Lib.decDigits place).toArray⟩:ByteArray)=cH place:=rfl
 rw [hD]
 have R1:=ae (R0.out.below hB1 (by simp<;>omega))
 have Z1:=ae (Z0.out.below hB1 (by simp<;>omega))
 have B1:=ae (A0.out.trans (hB1.mono (by simp<;>omega)))
 have pP:w1.cell? ⟨w.heap.size,0,none⟩=some (.slice (some ⟨pb,po,none⟩) cnt cap1):=(hB1.cell (p:=⟨w.heap.size,0,none⟩) (by simp<;>omega)).trans (iV _ _ _ _ _ _ _ rfl)
 have O1:=ae (own_below HO.out B1.out lr)
 have hz1:w.heap.size+1+1<w1.heap.size:=Z1.out.1
 have hz0:w.heap.size<w1.heap.size:=by omega
 have hz01:w.heap.size+1<w1.heap.size:=by omega
 clear hB1 A0 R0 Z0 hD
 obtain ⟨chl,⟨c0,f0⟩,⟨c1,f1⟩,⟨c2,f2⟩,⟨c3,f3⟩,⟨c4,f4⟩,⟨c5,f5⟩,⟨c6,f6⟩,⟨c7,f7⟩,⟨c8,f8⟩,c9,f9⟩:=R1.out
 rcases Int.lt_or_le (place:Int) cnt with h1 | h1
 rotate_left
 ·have S1:Hid (so=.inr (.inl (2,(cH place),steps))):=S0.out.trans (show ez f cnt y n place steps looks s=.inr (.inl (2,(cH place),steps)) by have h:cnt≤place:=(by omega);simp [ez,fk,bq,bU,h])
  go_wp2_with fail
  refine (dd _ _ _ _ _ _ _ _ _ _ _ _ _ _ _).mono ?_
  rintro e w5 ⟨rfl,hB5⟩
  have ZE:=ae (Z1.out.below hB5 Z1.out.1)
  have B5:=ae (B1.out.trans (hB5.mono B1.out.size))
  clear hB5
  clear chl c0 f0 c1 f1 c2 f2 c3 f3 c4 f4 c5 f5 c6 f6 c7 f7 c8 f8 c9 f9
  obtain ⟨zhl,⟨z0,y0⟩,⟨z1,y1⟩,⟨z2,y2⟩,⟨z3,y3⟩,⟨z4,y4⟩,⟨z5,y5⟩,⟨z6,y6⟩,⟨z7,y7⟩,⟨z8,y8⟩,z9,y9⟩:=ZE.out
  go_wp2
  refine bodyPost_ret (v:=ce place (.slice a s.length cap) steps looks true 2 (cH place) false ⟨#[]⟩ false) (by simp [results,Tryz.results237,go_sem,z0,z1,z2,z3,z4,z5,z6,z7,z8,z9]) rfl ⟨_,rfl,(by rw [S1.out];exact ⟨_,_,_,_,_,rfl⟩),cI B5.out (by omega) _ _ _ _ _ _ _ _ _ _⟩
 rcases Bool.eq_false_or_eq_true ((steps:Int) == 2000) with h2 | h2
 ·have S1:Hid (so=.inr (.inl (3,⟨#[]⟩,steps))):=S0.out.trans (show ez f cnt y n place steps looks s=.inr (.inl (3,⟨#[]⟩,steps)) by have h:¬ cnt≤place:=(by omega);have e:steps=2000:=(by simp at h2;omega);simp [ez,fk,bq,bU,h,e])
  go_wp2_with fail
  refine (dd _ _ _ _ _ _ _ _ _ _ _ _ _ _ _).mono ?_
  rintro e w5 ⟨rfl,hB5⟩
  have ZE:=ae (Z1.out.below hB5 Z1.out.1)
  have B5:=ae (B1.out.trans (hB5.mono B1.out.size))
  clear hB5
  clear chl c0 f0 c1 f1 c2 f2 c3 f3 c4 f4 c5 f5 c6 f6 c7 f7 c8 f8 c9 f9
  obtain ⟨zhl,⟨z0,y0⟩,⟨z1,y1⟩,⟨z2,y2⟩,⟨z3,y3⟩,⟨z4,y4⟩,⟨z5,y5⟩,⟨z6,y6⟩,⟨z7,y7⟩,⟨z8,y8⟩,z9,y9⟩:=ZE.out
  go_wp2
  refine bodyPost_ret (v:=ce place (.slice a s.length cap) steps looks true 3 ⟨#[]⟩ false ⟨#[]⟩ false) (by simp [results,Tryz.results237,go_sem,z0,z1,z2,z3,z4,z5,z6,z7,z8,z9]) rfl ⟨_,rfl,(by rw [S1.out];exact ⟨_,_,_,_,_,rfl⟩),cI B5.out (by omega) _ _ _ _ _ _ _ _ _ _⟩
 have hi:=jd HK.out (show place<cnt by omega)
 simp only [bT,decide_eq_true_eq] at hi
 obtain ⟨op,hop⟩:=Int.eq_ofNat_of_zero_le (show 0≤(f place).op by omega)
 obtain ⟨k,hk⟩:=Int.eq_ofNat_of_zero_le hi.2.2.2.1
 have hmt:cX (f place).op≤2000:=by unfold cX;split<;>(try split)<;>omega
 have hmt2:bI (f place).op≤2000:=by unfold bI;split<;>omega
 have hk2:k≤2000:=by omega
 have ht2:(f place).s.size≤2000:=by omega
 have ho1:1≤op:=by omega
 have ho2:op≤15:=by omega
 have EP:Hid (so=if dB op s=false then .inr (.inl (2,(cH place),(steps+1))) else fk y n place (steps+1) looks (bY op k (f place).s place looks s)):=by
  show _=_
  rw [S0.out]
  have q1:¬ cnt≤place:=by omega
  have q2:¬ steps=2000:=by simp at h2;omega
  simp only [ez,bq,bU,q1,q2,if_false,hop,hk,Int.toNat_natCast]
  split<;>rfl
 clear hi hmt hmt2 HK
 obtain ⟨d0,d1,d2⟩:=(HP.out.below B1.out lr).2 place (by omega)
 rw [hop] at d0
 rw [hk] at d2
 have hpb:pb<w.heap.size:=HP.out.1
 have d0':=(cell_far w1 ⟨w.heap.size+1,2,none⟩ ⟨pb,po+place*3,none⟩ (.int .i64 ((steps:Int)+1)) (by simp;omega)).trans d0
 have d1':=(cell_far w1 ⟨w.heap.size+1,2,none⟩ ⟨pb,po+place*3+1,none⟩ (.int .i64 ((steps:Int)+1)) (by simp;omega)).trans d1
 have d2':=(cell_far w1 ⟨w.heap.size+1,2,none⟩ ⟨pb,po+place*3+2,none⟩ (.int .i64 ((steps:Int)+1)) (by simp;omega)).trans d2
 have hne:∀ j,w.heap.size≤j→Value.ownBlock (.slice a s.length cap)≠some j:=fun j hj e=>by have:=(HO.out.lt j e).2;omega
 have R2:=ae ((R1.out.set2 (.int .i64 ((steps:Int)+1))).al (.cells #[.int .i64 op,.string (f place).s,.int .i64 k] 176))
 have Z2:=ae ((Z1.out.other ⟨w.heap.size+1,2,none⟩ (.int .i64 ((steps:Int)+1)) (by simp)).al (.cells #[.int .i64 op,.string (f place).s,.int .i64 k] 176))
 have O2:=ae ((ownsRow_setCell_other O1.out (a:=⟨w.heap.size+1,2,none⟩) (hne _ (by simp)) (.int .i64 ((steps:Int)+1))).alloc (.cells #[.int .i64 op,.string (f place).s,.int .i64 k] 176))
 have B2:=ae ((B1.out.setCell (p:=⟨w.heap.size+1,2,none⟩) (by simp) (.int .i64 ((steps:Int)+1))).alloc (by have:=B1.out.size;simpa using this) (.cells #[.int .i64 op,.string (f place).s,.int .i64 k] 176))
 have g0:((w1.setCell ⟨w.heap.size+1,2,none⟩ (.int .i64 ((steps:Int)+1))).alloc (.cells #[.int .i64 op,.string (f place).s,.int .i64 k] 176)).cell? ⟨w1.heap.size,0,none⟩=some (.int .i64 op):=gS _ _ _ _ _ _ (by simp) rfl
 have g1:((w1.setCell ⟨w.heap.size+1,2,none⟩ (.int .i64 ((steps:Int)+1))).alloc (.cells #[.int .i64 op,.string (f place).s,.int .i64 k] 176)).cell? ⟨w1.heap.size,1,none⟩=some (.string (f place).s):=gS _ _ _ _ _ _ (by simp) rfl
 have g2:((w1.setCell ⟨w.heap.size+1,2,none⟩ (.int .i64 ((steps:Int)+1))).alloc (.cells #[.int .i64 op,.string (f place).s,.int .i64 k] 176)).cell? ⟨w1.heap.size,2,none⟩=some (.int .i64 k):=gS _ _ _ _ _ _ (by simp) rfl
 have hWz:w1.heap.size<((w1.setCell ⟨w.heap.size+1,2,none⟩ (.int .i64 ((steps:Int)+1))).alloc (.cells #[.int .i64 op,.string (f place).s,.int .i64 k] 176)).heap.size:=by simp
 clear hne
 go_wp2_with fail
 refine (oX op _ ho1 ho2).mono ?_
 rintro e w9 ⟨rfl,hw9⟩
 subst hw9
 clear chl c0 f0 c1 f1 c2 f2 c3 f3 c4 f4 c5 f5 c6 f6 c7 f7 c8 f8 c9 f9
 clear d0 d1 d2 d0' d1' d2' hop hk pP
 generalize ((w1.setCell ⟨w.heap.size+1,2,none⟩ (.int .i64 ((steps:Int)+1))).alloc (.cells #[.int .i64 op,.string (f place).s,.int .i64 k] 176))=W at R2 Z2 O2 B2 g0 g1 g2 hWz ⊢
 obtain ⟨chl,⟨c0,f0⟩,⟨c1,f1⟩,⟨c2,f2⟩,⟨c3,f3⟩,⟨c4,f4⟩,⟨c5,f5⟩,⟨c6,f6⟩,⟨c7,f7⟩,⟨c8,f8⟩,c9,f9⟩:=R2.out
 have hpt:=un op
 have htk:aB op≤2:=by unfold aB;split<;>(try split)<;>omega
 by_cases hb:dB op s=false
 ·have S1:Hid (so=.inr (.inl (2,(cH place),(steps+1)))):=by rw [EP.out,if_pos hb];rfl
  have hA:(s.length:Int)<(aB op:Nat)∨¬ (s.length:Int)<(aB op:Nat)∧(50:Int)<(s.length:Int) - (aB op:Nat)+(bi op:Nat):=by
   simp only [dB,decide_eq_false_iff_not] at hb
   omega
  clear hb EP
  rcases hA with hA | ⟨hA,hA2⟩
  iterate 2
   ·go_wp2_with fail
    refine (dd _ _ _ _ _ _ _ _ _ _ _ _ _ _ _).mono ?_
    rintro e w5 ⟨rfl,hB5⟩
    have ZE:=ae (Z2.out.below hB5 Z2.out.1)
    have B5:=ae (B2.out.trans (hB5.mono B2.out.size))
    clear hB5
    clear chl c0 f0 c1 f1 c2 f2 c3 f3 c4 f4 c5 f5 c6 f6 c7 f7 c8 f8 c9 f9
    obtain ⟨zhl,⟨z0,y0⟩,⟨z1,y1⟩,⟨z2,y2⟩,⟨z3,y3⟩,⟨z4,y4⟩,⟨z5,y5⟩,⟨z6,y6⟩,⟨z7,y7⟩,⟨z8,y8⟩,z9,y9⟩:=ZE.out
    go_wp2
    refine bodyPost_ret (v:=ce place (.slice a s.length cap) ((steps:Int)+1) looks true 2 (cH place) false ⟨#[]⟩ false) (by simp [results,Tryz.results237,go_sem,z0,z1,z2,z3,z4,z5,z6,z7,z8,z9]) rfl ⟨_,rfl,(by rw [S1.out];exact ⟨_,_,_,_,_,rfl⟩),cI B5.out (by omega) _ _ _ _ _ _ _ _ _ _⟩
 have hb':aB op≤s.length∧s.length - aB op+bi op≤50:=by simpa [dB] using hb
 have hA:¬ (s.length:Int)<(aB op:Nat):=by omega
 have hA2:¬ (50:Int)<(s.length:Int) - (aB op:Nat)+(bi op:Nat):=by omega
 have SO:Hid (so=fk y n place (steps+1) looks (bY op k (f place).s place looks s)):=by rw [EP.out,if_neg hb];rfl
 have HB:=ae hb'.1
 have hr5:(s.drop (aB op)).length+bi op≤50:=by rw [List.length_drop];omega
 clear hb hb' EP
 obtain ⟨A,hA1⟩:∃ A,A=ia op s:=⟨_,rfl⟩
 obtain ⟨B,hB1⟩:∃ B,B=li op s:=⟨_,rfl⟩
 obtain ⟨r,hr1⟩:∃ r,r=s.drop (aB op):=⟨_,rfl⟩
 rw [← hr1] at hr5
 have EA:=ae hA1
 have EB:=ae hB1
 have ER:=ae hr1
 clear S0 hA1 hB1 hr1
 go_upto_if 68 with fail
 go_cut [11] (fun sa wx=>sa=.string A∧W=wx)
 case first =>
  by_cases ht:(0:Int)<(aB op:Nat)
  ·rcases s with _ | ⟨x,q⟩
   ·exact absurd HB.out (by simp;omega)
   ·obtain ⟨g,c,e⟩:=fX O2.out (by simp)
    obtain ⟨rfl,-⟩:=Value.slice.inj e
    have t1:=vC O2.out
    have hq5:q.length≤50:=by simp at hs;omega
    obtain rfl:A=x:=by rw [EA.out];unfold ia;rw [if_pos (by omega)];rfl
    rw [List.length_cons] at c1
    go_wp2
    go_meet
    exact ⟨rfl,rfl⟩
  ·obtain rfl:A=⟨#[]⟩:=by rw [EA.out];unfold ia;rw [if_neg (by omega)]
   go_wp2
   go_meet
   exact ⟨rfl,rfl⟩
 case rest =>
 obtain ⟨rfl,rfl⟩:=hcut
 go_upto_if 78 with fail
 go_cut [12] (fun sa wx=>sa=.string B∧W=wx)
 case first =>
  by_cases ht:(1:Int)<(aB op:Nat)
  ·rcases s with _ | ⟨x,_ | ⟨z,q⟩⟩
   ·exact absurd HB.out (by simp;omega)
   ·exact absurd HB.out (by simp;omega)
   ·obtain ⟨g,c,e⟩:=fX O2.out (by simp)
    obtain ⟨rfl,-⟩:=Value.slice.inj e
    obtain ⟨t1,t2⟩:=vD O2.out
    have hq5:q.length+1≤50:=by simp at hs;omega
    obtain rfl:B=z:=by rw [EB.out];unfold li;rw [if_pos (by omega)];rfl
    rw [List.length_cons,List.length_cons] at c1
    go_wp2
    go_meet
    exact ⟨rfl,rfl⟩
  ·obtain rfl:B=⟨#[]⟩:=by rw [EB.out];unfold li;rw [if_neg (by omega)]
   go_wp2
   go_meet
   exact ⟨rfl,rfl⟩
 case rest =>
 obtain ⟨rfl,rfl⟩:=hcut
 have hl:s.length=r.length+aB op:=by rw [ER.out,List.length_drop];have:=HB.out;omega
 go_upto_region 17 with fail
 go_cut [13] (fun sr wx=>∃ gr cr,sr=.slice (some ⟨gr,0,none⟩) r.length cr∧W.heap.size≤gr∧Hid (wx.ownsRow W.heap.size 9 1 (.slice (some ⟨gr,0,none⟩) r.length cr) r.length (strs r))∧Hid (Below W.heap.size W wx))
 case first =>
  rcases sL O2.out with ⟨rfl,hz,rfl⟩ | ⟨g,rfl⟩
  ·obtain rfl:s=[]:=List.length_eq_zero_iff.1 hz
   obtain rfl:r=[]:=by rw [ER.out];simp
   have ht0:aB op=0:=by simpa using HB.out
   have h0:((aB op:Nat):Int)=0:=by rw [ht0];rfl
   have hw3:-((aB op:Nat):Int)=0:=by rw [h0];decide
   have hw4:0 - ((aB op:Nat):Int)=0:=by rw [h0];decide
   clear h0 ht0 hl
   have AL:=ae ((Below.refl W.heap.size W).alloc lr (.cells #[] 9))
   have OM:=ae (World.ownsRow_made (base:=W.heap.size) (e:=9) (size:=1) W #[] 0 lr (by unfold maxLen;omega) rfl)
   go_wp2
   go_meet
   exact ⟨_,_,rfl,Nat.le_refl _,OM.out,AL.out⟩
  ·have hcap:(r.length:Int)≤cap:=by have:=vE O2.out;omega
   have hpre:Hid (∀ j u,(strs r)[j]?=some u→(W.alloc (.cells #[] 9)).cell? ((⟨g,0,none⟩:Addr).add j)=some u):=vF (xs:=strs (s.take (aB op))) (by
    have h:=O2.out.alloc (.cells #[] 9)
    rw [ER.out,← us,List.take_append_drop]
    exact h)
   obtain ⟨t,ht⟩:∃ t,t=aB op:=⟨_,rfl⟩
   rw [← ht] at hl htk ⊢
   rw [hl] at c1 hs
   have HS:=ae hs
   have HL:=ae hl
   clear hs hl
   obtain ⟨i0',hi,hy0,hy1,hy2⟩:=info_parts ec
   go_wp2_with (at_builtin;refine wpList_append_own _ rfl (.tmp 87) (.tmp 95) 39 rfl W.heap.size 9 i0' (.string ⟨#[]⟩) 1 16 Tryz.underlying39 hi hy0 hy1 hy2 rfl (by decide) (.slice (some ⟨W.heap.size,0,none⟩) 0 0) 0 [] (by simp [Act.eval]) (World.ownsRow_made W #[] 0 lr (by unfold maxLen;omega) rfl) ⟨g,0,none⟩ r.length cap (strs r) (by simp [Act.eval]) (by simp [strs]) hpre.out (um _) (by unfold maxLen;omega) (by omega) (by simp) ?_;intro v' w2 hown hgrow hnil;simp only [Nat.zero_add,List.nil_append] at hown;obtain ⟨gr,cr,rfl,hgr⟩:=lO hown (fun e=>by simpa using hnil.1 e);have B3:=ae (Below.grown ((Below.refl W.heap.size W).alloc lr (.cells #[] 9)) hgrow (by simp) (fun j e=>by simp [Value.ownBlock] at e;omega));have OWN:=ae hown;clear hown hgrow hnil)
   go_meet
   exact ⟨gr,cr,rfl,hgr,OWN.out,B3.out⟩
 case rest =>
 clear hl hA hA2
 obtain ⟨gr,cr,rfl,hgr,OWN,B3⟩:=hcut
 have hBW:w.heap.size≤W.heap.size:=B2.out.size
 have hr1:w.heap.size+1<W.heap.size:=R2.out.1
 have hz2:w.heap.size+1+1<W.heap.size:=Z2.out.1
 have hgw:w.heap.size+1≠gr:=by omega
 have hz3:W.heap.size≤wc.heap.size:=B3.out.size
 clear chl c0 f0 c1 f1 c2 f2 c3 f3 c4 f4 c5 f5 c6 f6 c7 f7 c8 f8 c9 f9
 have R3:=ae (R2.out.below B3.out R2.out.1)
 have Z3:=ae (Z2.out.below B3.out Z2.out.1)
 have G0:=(B3.out.cell (p:=⟨w1.heap.size,0,none⟩) hWz).trans g0
 have G1:=(B3.out.cell (p:=⟨w1.heap.size,1,none⟩) hWz).trans g1
 have G2:=(B3.out.cell (p:=⟨w1.heap.size,2,none⟩) hWz).trans g2
 have R4:=ae (R3.out.set0 (.int .i64 ((place:Int)+1)))
 have Z4:=ae (Z3.out.other ⟨w.heap.size+1,0,none⟩ (.int .i64 ((place:Int)+1)) (by simp))
 have B4:=ae ((B2.out.trans (B3.out.mono B2.out.size)).setCell (p:=⟨w.heap.size+1,0,none⟩) (by simp) (.int .i64 ((place:Int)+1)))
 have O4:=ae (cJ OWN.out hgw (.int .i64 ((place:Int)+1)) 0)
 have H0:=(cell_far _ ⟨w.heap.size+1,0,none⟩ ⟨w1.heap.size,0,none⟩ (.int .i64 ((place:Int)+1)) (by simp;omega)).trans G0
 have H1:=(cell_far _ ⟨w.heap.size+1,0,none⟩ ⟨w1.heap.size,1,none⟩ (.int .i64 ((place:Int)+1)) (by simp;omega)).trans G1
 have H2:=(cell_far _ ⟨w.heap.size+1,0,none⟩ ⟨w1.heap.size,2,none⟩ (.int .i64 ((place:Int)+1)) (by simp;omega)).trans G2
 have hbs:W.heap.size≤(wc.setCell ⟨w.heap.size+1,0,none⟩ (.int .i64 ((place:Int)+1))).heap.size:=by simpa using hz3
 obtain ⟨ehl,⟨e0,v0⟩,⟨e1,v1⟩,⟨e2,v2⟩,⟨e3,v3⟩,⟨e4,v4⟩,⟨e5,v5⟩,⟨e6,v6⟩,⟨e7,v7⟩,⟨e8,v8⟩,e9,v9⟩:=R3.out
 go_upto_block 0 with fail
 clear ehl e0 v0 e1 v1 e2 v2 e3 v3 e4 v4 e5 v5 e6 v6 e7 v7 e8 v8 e9 v9
 clear g0 g1 g2 G0 G1 G2 B3 R3 Z3 OWN R2 Z2 O2
 generalize wc.setCell ⟨w.heap.size+1,0,none⟩ (.int .i64 ((place:Int)+1))=W5 at R4 Z4 B4 O4 H0 H1 H2 hbs ⊢
 obtain ⟨hAs,hBs⟩:A.size≤2000∧B.size≤2000:=by rw [EA.out,EB.out];exact nU HL.out op
 obtain ⟨AT,hAT⟩:∃ AT,AT=iX op k A place:=⟨_,rfl⟩
 have EAT:=ae hAT
 clear hAT
 go_cut [] (fun wx=>op≤11∧Hid (Ten wx (w.heap.size+1) (.int .i64 AT) (.slice a s.length cap) (.int .i64 ((steps:Int)+1)) (.int .i64 looks) (.bool false) (.int .i64 0) (.string ⟨#[]⟩) (.bool false) (.string ⟨#[]⟩) (.bool false))∧Hid (Ten wx (w.heap.size+1+1) (.int .i64 0) (.slice none 0 0) (.int .i64 0) (.int .i64 0) (.bool false) (.int .i64 0) (.string ⟨#[]⟩) (.bool false) (.string ⟨#[]⟩) (.bool false))∧Hid (Below w.heap.size w wx)∧Hid (wx.ownsRow W.heap.size 9 1 (.slice (some ⟨gr,0,none⟩) r.length cr) r.length (strs r))∧wx.cell? ⟨w1.heap.size,0,none⟩=some (.int .i64 op)∧wx.cell? ⟨w1.heap.size,1,none⟩=some (.string (f place).s)∧wx.cell? ⟨w1.heap.size,2,none⟩=some (.int .i64 k)∧W.heap.size≤wx.heap.size)
 case first =>
  obtain ⟨chl,⟨c0,f0⟩,⟨c1,f1⟩,⟨c2,f2⟩,⟨c3,f3⟩,⟨c4,f4⟩,⟨c5,f5⟩,⟨c6,f6⟩,⟨c7,f7⟩,⟨c8,f8⟩,c9,f9⟩:=R4.out
  rcases vI op A ho2 with rfl | rfl | rfl | rfl | rfl | ⟨rfl,q1⟩ | ⟨rfl,q1,q2⟩ | ⟨rfl,q1,q2⟩ | h9
  ·go_wp2_with fail
   refine (dd _ _ _ _ _ _ _ _ _ _ _ _ _ _ _).mono ?_
   rintro e w5 ⟨rfl,hB5⟩
   have ZE:=ae (Z4.out.below hB5 Z4.out.1)
   have B5:=ae (B4.out.trans (hB5.mono B4.out.size))
   clear hB5
   clear chl c0 f0 c1 f1 c2 f2 c3 f3 c4 f4 c5 f5 c6 f6 c7 f7 c8 f8 c9 f9
   obtain ⟨zhl,⟨z0,y0⟩,⟨z1,y1⟩,⟨z2,y2⟩,⟨z3,y3⟩,⟨z4,y4⟩,⟨z5,y5⟩,⟨z6,y6⟩,⟨z7,y7⟩,⟨z8,y8⟩,z9,y9⟩:=ZE.out
   go_wp2
   refine bodyPost_ret (v:=ce ((place:Int)+1) (.slice a s.length cap) ((steps:Int)+1) looks true 0 A false ⟨#[]⟩ false) (by simp [results,Tryz.results237,go_sem,z0,z1,z2,z3,z4,z5,z6,z7,z8,z9]) rfl ⟨_,rfl,(by rw [SO.out,pF _ _ _ _ _ _ _ _ _ (by simp) HB.out,← EA.out];exact ⟨_,_,_,_,_,rfl⟩),cI B5.out (by omega) _ _ _ _ _ _ _ _ _ _⟩
  ·go_wp2_with fail
   refine (dd _ _ _ _ _ _ _ _ _ _ _ _ _ _ _).mono ?_
   rintro e w5 ⟨rfl,hB5⟩
   have ZE:=ae (Z4.out.below hB5 Z4.out.1)
   have B5:=ae (B4.out.trans (hB5.mono B4.out.size))
   clear hB5
   clear chl c0 f0 c1 f1 c2 f2 c3 f3 c4 f4 c5 f5 c6 f6 c7 f7 c8 f8 c9 f9
   obtain ⟨zhl,⟨z0,y0⟩,⟨z1,y1⟩,⟨z2,y2⟩,⟨z3,y3⟩,⟨z4,y4⟩,⟨z5,y5⟩,⟨z6,y6⟩,⟨z7,y7⟩,⟨z8,y8⟩,z9,y9⟩:=ZE.out
   go_wp2
   refine bodyPost_ret (v:=ce ((place:Int)+1) (.slice a s.length cap) ((steps:Int)+1) looks true 1 A false ⟨#[]⟩ false) (by simp [results,Tryz.results237,go_sem,z0,z1,z2,z3,z4,z5,z6,z7,z8,z9]) rfl ⟨_,rfl,(by rw [SO.out,pF _ _ _ _ _ _ _ _ _ (by simp) HB.out,← EA.out];exact ⟨_,_,_,_,_,rfl⟩),cI B5.out (by omega) _ _ _ _ _ _ _ _ _ _⟩
  iterate 2
   ·go_wp2_with fail
    have Z5:=ae (Z4.out.other ⟨w.heap.size+1,1,none⟩ (.slice (some ⟨gr,0,none⟩) r.length cr) (by simp))
    have B5:=ae (B4.out.setCell (p:=⟨w.heap.size+1,1,none⟩) (by simp) (.slice (some ⟨gr,0,none⟩) r.length cr))
    have O5:=ae (cJ O4.out hgw (.slice (some ⟨gr,0,none⟩) r.length cr) 1)
    have Y5:=ae (HY.out.below B5.out lr)
    have hq:=fun (o:Nat) (ho:o=12∨o=13)=>rh o (f place).s k (place+1) (steps+1) looks (some ⟨gr,0,none⟩) cr r A (cH place) b2 o2 n cap2 W.heap.size y _ Y5.out O5.out (by simpa using hbs) ho hlk (by omega)
    rw [show ((place+1:Nat):Int)=(place:Int)+1 by omega,show ((steps+1:Nat):Int)=(steps:Int)+1 by omega] at hq
    refine (hq _ (by simp)).mono ?_
    rintro e w5 ⟨v,rfl,hso,hB5⟩
    have SO5:=ae hso
    obtain ⟨l0,l1,l2,l3,l4,l5,l6,l7,l8,l9,l10,l11,rfl⟩:=hso.form
    have ZE:=ae (Z5.out.below hB5 hz2)
    have B6:=ae (B5.out.trans (hB5.mono hBW))
    clear hB5 hq hso
    clear chl c0 f0 c1 f1 c2 f2 c3 f3 c4 f4 c5 f5 c6 f6 c7 f7 c8 f8 c9 f9
    obtain ⟨zhl,⟨z0,y0⟩,⟨z1,y1⟩,⟨z2,y2⟩,⟨z3,y3⟩,⟨z4,y4⟩,⟨z5,y5⟩,⟨z6,y6⟩,⟨z7,y7⟩,⟨z8,y8⟩,z9,y9⟩:=ZE.out
    go_wp2
    refine bodyPost_ret (v:=ce l0 (.slice l1 l2 l3) l4 l5 l6 l7 l8 l9 l10 l11) (by simp [results,Tryz.results237,go_sem,z0,z1,z2,z3,z4,z5,z6,z7,z8,z9]) rfl ⟨_,rfl,(by rw [SO.out,vJ _ _ _ _ _ _ _ _ _ (by simp) HB.out,← EA.out,← ER.out];exact (sJ SO5.out hz2 _ _ _ _ _ _ _ _ _ _).mono hBW),cI B6.out (by omega) _ _ _ _ _ _ _ _ _ _⟩
  iterate 3
   ·obtain rfl:AT=k:=EAT.out.trans (xu (by first | exact .inl rfl | exact .inr (.inl ⟨rfl,q1⟩) | exact .inr (.inr ⟨rfl,q2⟩)))
    have R5:=ae (R4.out.set0 (.int .i64 AT))
    have Z5:=ae (Z4.out.other ⟨w.heap.size+1,0,none⟩ (.int .i64 AT) (by simp))
    have B5:=ae (B4.out.setCell (p:=⟨w.heap.size+1,0,none⟩) (by simp) (.int .i64 AT))
    have O5:=ae (cJ O4.out hgw (.int .i64 AT) 0)
    have I0:=(cell_far _ ⟨w.heap.size+1,0,none⟩ ⟨w1.heap.size,0,none⟩ (.int .i64 (AT:Int)) (by simp;omega)).trans H0
    have I1:=(cell_far _ ⟨w.heap.size+1,0,none⟩ ⟨w1.heap.size,1,none⟩ (.int .i64 (AT:Int)) (by simp;omega)).trans H1
    have I2:=(cell_far _ ⟨w.heap.size+1,0,none⟩ ⟨w1.heap.size,2,none⟩ (.int .i64 (AT:Int)) (by simp;omega)).trans H2
    have HI:=ae I0
    have HI1:=ae I1
    have HI2:=ae I2
    clear I0 I1 I2
    go_wp2
    go_meet
    exact ⟨by omega,R5.out,Z5.out,B5.out,O5.out,HI.out,HI1.out,HI2.out,by simpa using hbs⟩
  ·obtain rfl:AT=place+1:=by rw [EAT.out];unfold iX;rw [if_neg (by decide),if_neg (fun h=>h.2.elim (fun e=>by rw [e] at q1;cases q1) (fun e=>by rw [e] at q2;cases q2))]
   go_wp2
   go_meet
   exact ⟨by omega,by show Ten _ _ _ _ _ _ _ _ _ _ _ _;rw [show ((place+1:Nat):Int)=(place:Int)+1 by omega];exact R4.out,Z4.out,B4.out,O4.out,H0,H1,H2,hbs⟩
  ·obtain rfl:AT=place+1:=by rw [EAT.out];unfold iX;rw [if_neg (by omega),if_neg (by omega)]
   have n15:((op:Int) == 15)=false:=by simp;omega
   have n14:((op:Int) == 14)=false:=by simp;omega
   have n12:((op:Int) == 12)=false:=by simp;omega
   have n13:((op:Int) == 13)=false:=by simp;omega
   have n10:((op:Int) == 10)=false:=by simp;omega
   have n11:((op:Int) == 11)=false:=by simp;omega
   go_wp2
   go_meet
   exact ⟨by omega,by show Ten _ _ _ _ _ _ _ _ _ _ _ _;rw [show ((place+1:Nat):Int)=(place:Int)+1 by omega];exact R4.out,Z4.out,B4.out,O4.out,H0,H1,H2,hbs⟩
 case rest =>
 clear R4 Z4 B4 O4 H0 H1 H2 hbs
 obtain ⟨h11,R4,Z4,B4,O4,G0,G1,G2,hbs⟩:=hcut
 obtain ⟨PL,hPL⟩:∃ PL,PL=bB op k (f place).s A B:=⟨_,rfl⟩
 have HPL:Hid (PL=bB op k (f place).s A B∧PL.length=bi op):=⟨hPL,by rw [hPL];exact ri _ _ _ _ _ ho1 h11⟩
 have SOP:Hid (so=eK PL (cH place) r AT (steps+1) looks):=by
  show _=_
  rw [SO.out,ut _ _ _ _ _ _ _ _ _ ho1 h11 HB.out ht2 HL.out,hPL,← EA.out,← EB.out,← ER.out,← EAT.out]
 clear hPL SO EA EB ER EAT
 go_wp2_with fail
 go_loopw [13,14] (fun rest i wr=>∃ j:Nat,j≤bi op∧i=.int .i64 j∧∃ g6 cx,rest=.slice (some ⟨g6,0,none⟩) (r.length+j) cx∧Hid (wr.ownsRow W.heap.size 9 1 (.slice (some ⟨g6,0,none⟩) (r.length+j) cx) (r.length+j) (strs r++(PL.take j).map Value.string))∧Hid (Below W.heap.size wc wr)∧Hid (∀ i,i<j→(PL.getD i ⟨#[]⟩).size≤2000)) (fun _ i _=>bi op - (intOf i).toNat)
 case atStart=>exact ⟨0,by omega,rfl,gr,cr,rfl,(by show World.ownsRow _ _ _ _ _ _ _;rw [List.take_zero,List.map_nil,List.append_nil];exact O4.out),Below.refl _ _,fun i hi=>absurd hi (Nat.not_lt_zero _)⟩
 case round =>
  obtain ⟨j,hj,rfl,g6,cx,rfl,O6,B6,S6⟩:=hrel
  have R6:=ae (R4.out.below B6.out hr1)
  have Z6:=ae (Z4.out.below B6.out hz2)
  have i0:=(B6.out.cell (p:=⟨w1.heap.size,0,none⟩) hWz).trans G0
  have i1:=(B6.out.cell (p:=⟨w1.heap.size,1,none⟩) hWz).trans G1
  have i2:=(B6.out.cell (p:=⟨w1.heap.size,2,none⟩) hWz).trans G2
  have hw6:W.heap.size≤wr.heap.size:=Nat.le_trans hbs B6.out.size
  have B7:=ae (B4.out.trans (B6.out.mono hBW))
  by_cases hlt:j<bi op
  ·have h8:op≤8:=vG ho1 h11 hlt
   have hjl:j<PL.length:=by rw [HPL.out.2];exact hlt
   go_wp2_with fail
   refine (oY op k (f place).s A B _ ho1 h8 hAs hBs hk2).mono ?_
   rintro e w6 ⟨g7,rfl,hrow,hge,hB6⟩
   rw [← HPL.out.1] at hrow ⊢
   rw [HPL.out.2] at hrow ⊢
   have q6:w6.cell? ⟨g7,j,none⟩=some (.string (PL.getD j ⟨#[]⟩)):=by have:=hrow.2 j hlt;rwa [Nat.zero_add] at this
   obtain ⟨E,hE⟩:∃ E,E=PL.getD j ⟨#[]⟩:=⟨_,rfl⟩
   rw [← hE] at q6
   have HE:=ae hE
   clear hE
   have O7:=ae (own_below O6.out hB6 lr)
   have B8:=ae (B6.out.trans (hB6.mono hw6))
   have hw7:W.heap.size≤w6.heap.size:=Nat.le_trans hw6 hB6.size
   have R7:=ae (R6.out.below hB6 R6.out.1)
   have Z7:=ae (Z6.out.below hB6 Z6.out.1)
   have B9:=ae (B7.out.trans (hB6.mono B7.out.size))
   clear hrow hge hB6 i0 i1 i2 R6 Z6
   by_cases hs6:(E.size:Int)≤2000
   ·obtain ⟨i0',hi,hy0,hy1,hy2⟩:=info_parts ec
    go_wp2_with (at_builtin;refine wpList_append_own _ rfl (.tmp 158) (.tmp 163) 39 rfl W.heap.size 9 i0' (.string ⟨#[]⟩) 1 16 Tryz.underlying39 hi hy0 hy1 hy2 rfl (by decide) (.slice (some ⟨g6,0,none⟩) (r.length+j) cx) (r.length+j) (strs r++(PL.take j).map Value.string) (by simp [Act.eval]) (O7.out.alloc _) ⟨w6.heap.size,0,none⟩ 1 1 [.string E] (by simp [Act.eval]) rfl (eH w6 _ _) (by simp [Value.oneCell']) (by unfold maxLen;omega) (by omega) (by simp<;>omega) ?_;intro v' w7 hown7 hgrow7 hnil7;obtain ⟨g8,c8,rfl,hg8⟩:=lO hown7 (fun e=>by simpa using hnil7.1 e);have O8:=ae hown7;have B10:=ae (Below.grown (B8.out.alloc hw7 (.cells #[.string E] 9)) hgrow7 (by simp<;>omega) (fun i e=>(O7.out.lt i e).1));clear hown7 hgrow7 hnil7)
    exact ⟨⟨j+1,by omega,by go_num,g8,c8,rfl,by show World.ownsRow _ _ _ _ _ _ _;rw [sK hjl,← List.append_assoc,← HE.out];exact O8.out,B10.out,fun i hi=>by
     by_cases e:i=j
     ·subst e;rw [← HE.out];omega
     ·exact S6.out i (by omega)⟩,by simp [intOf];omega⟩
   ·have ER:=ae (show so=.inr (.inl (2,(cH place),(steps+1))) by rw [SOP.out];unfold eK;rw [vH hjl (by rw [← HE.out];exact hs6)];rfl)
    obtain ⟨chl,⟨c0,f0⟩,⟨c1,f1⟩,⟨c2,f2⟩,⟨c3,f3⟩,⟨c4,f4⟩,⟨c5,f5⟩,⟨c6,f6⟩,⟨c7,f7⟩,⟨c8,f8⟩,c9,f9⟩:=R7.out
    go_wp2_with fail
    refine (dd _ _ _ _ _ _ _ _ _ _ _ _ _ _ _).mono ?_
    rintro e w5 ⟨rfl,hB5⟩
    have ZE:=ae (Z7.out.below hB5 Z7.out.1)
    have B5:=ae (B9.out.trans (hB5.mono B9.out.size))
    clear hB5
    clear chl c0 f0 c1 f1 c2 f2 c3 f3 c4 f4 c5 f5 c6 f6 c7 f7 c8 f8 c9 f9
    obtain ⟨zhl,⟨z0,y0⟩,⟨z1,y1⟩,⟨z2,y2⟩,⟨z3,y3⟩,⟨z4,y4⟩,⟨z5,y5⟩,⟨z6,y6⟩,⟨z7,y7⟩,⟨z8,y8⟩,z9,y9⟩:=ZE.out
    go_wp2
    refine bodyPost_ret (v:=ce AT (.slice a s.length cap) ((steps:Int)+1) looks true 2 (cH place) false ⟨#[]⟩ false) (by simp [results,Tryz.results237,go_sem,z0,z1,z2,z3,z4,z5,z6,z7,z8,z9]) rfl ⟨_,rfl,(by rw [ER.out];exact ⟨_,_,_,_,_,rfl⟩),cI B5.out (by omega) _ _ _ _ _ _ _ _ _ _⟩
  ·have e:j=bi op:=by omega
   subst e
   have ER:=ae (show so=.inl (AT,(steps+1),looks,(PL.reverse++r)) by rw [SOP.out];unfold eK;rw [uq (fun i hi=>S6.out i (by rw [HPL.out.2] at hi;exact hi))];rfl)
   have HLn:=ae (show (PL.reverse++r).length=r.length+bi op by rw [List.length_append,List.length_reverse,HPL.out.2];omega)
   obtain ⟨chl,⟨c0,f0⟩,⟨c1,f1⟩,⟨c2,f2⟩,⟨c3,f3⟩,⟨c4,f4⟩,⟨c5,f5⟩,⟨c6,f6⟩,⟨c7,f7⟩,⟨c8,f8⟩,c9,f9⟩:=R6.out
   obtain ⟨zhl,⟨z0,y0⟩,⟨z1,y1⟩,⟨z2,y2⟩,⟨z3,y3⟩,⟨z4,y4⟩,⟨z5,y5⟩,⟨z6,y6⟩,⟨z7,y7⟩,⟨z8,y8⟩,z9,y9⟩:=Z6.out
   have OE:=ae (ownsRow_setCell_below O6.out (a:=⟨w.heap.size+1,1,none⟩) hr1 (.slice (some ⟨g6,0,none⟩) (r.length+bi op) cx))
   have BE:=ae (B7.out.setCell (p:=⟨w.heap.size+1,1,none⟩) (by simp) (.slice (some ⟨g6,0,none⟩) (r.length+bi op) cx))
   go_wp2
   refine bodyPost_ret (v:=ce AT (.slice (some ⟨g6,0,none⟩) (r.length+bi op) cx) ((steps:Int)+1) looks false 0 ⟨#[]⟩ false ⟨#[]⟩ false) (by simp [results,Tryz.results237,go_sem,z0,z1,z2,z3,z4,z5,z6,z7,z8,z9]) rfl ⟨_,rfl,?_,cI BE.out (by omega) _ _ _ _ _ _ _ _ _ _⟩
   rw [ER.out]
   refine (sJ (v:=ce AT (.slice (some ⟨g6,0,none⟩) (r.length+bi op) cx) ((steps:Int)+1) looks false 0 ⟨#[]⟩ false ⟨#[]⟩ false) (base:=W.heap.size) ?_ hz2 _ _ _ _ _ _ _ _ _ _).mono hBW
   refine ⟨some ⟨g6,0,none⟩,cx,by rw [HLn.out];simp,?_⟩
   rw [HLn.out,uo]
   have h:=OE.out
   rw [show PL.take (bi op)=PL by rw [← HPL.out.2];exact List.take_length] at h
   exact h
def wN (f:Nat→Ins)(cnt:Nat)(y:Nat→aw)(n:Nat)(T:Turn)(st:Nat):SO→Prop
 | .inr (.inl (c,x,k))=>T=dx c x k
 | .inr (.inr (a,nm,k))=>T=jk a nm k
 | .inl (p,k,l,s)=>k=st+1∧k≤2000∧b9 f cnt y n (2001 - k) p k l s=T∧p≤2000∧l≤200∧s.length≤50∧∀ x∈s,x.size≤2000
theorem o6 {f:Nat→Ins}{cnt place steps looks:Nat}{stk:List ByteArray}(hl:stk.length≤50)(hle:∀ x∈stk,x.size≤2000)(hlk:looks≤200)(hok:cG f cnt=true)(hc:cnt≤200):lf (bq f cnt place steps looks stk) looks:=by
 unfold bq
 split
 ·trivial
 ·rename_i h1
  split
  ·trivial
  ·split
   ·trivial
   ·rename_i h3
    have hi:=jd hok (show place<cnt by omega)
    simp only [bT,decide_eq_true_eq] at hi
    obtain ⟨i1,i2,i3,i4,i5⟩:=hi
    have hmt:cX (f place).op≤2000:=by unfold cX;split<;>(try split)<;>omega
    have hmt2:bI (f place).op≤2000:=by unfold bI;split<;>omega
    exact fH _ _ _ _ _ _ hl hle (by omega) (by omega) (by omega) hlk (by omega) (by omega) (by simpa using h3)
theorem o7 {f:Nat→Ins}{cnt place steps looks:Nat}{stk:List ByteArray}{a:Bool}{nm:ByteArray}{s:List ByteArray}(h:bq f cnt place steps looks stk=.inr (.inr (a,nm,s))):place<cnt:=by
 unfold bq at h
 split at h
 ·cases h
 ·omega
theorem vO {f:Nat→Ins}{cnt:Nat}{y:Nat→aw}{n:Nat}{T:Turn}{p st l:Nat}{s:List ByteArray}(hst:st≤2000)(hl:l≤200)(hs:s.length≤50)(hle:∀ x∈s,x.size≤2000)(hok:cG f cnt=true)(hc:cnt≤200)(hr:aZ y n=true)
  (hT:b9 f cnt y n (2001 - st) p st l s=T):wN f cnt y n T st (ez f cnt y n p st l s):=by
 obtain ⟨j,hj⟩:∃ j,2001 - st=j+1:=⟨2000 - st,by omega⟩
 rw [hj,b9] at hT
 have hF:=o6 (place:=p) (steps:=st) hs hle hl hok hc
 unfold ez
 rcases h:bq f cnt p st l s with ⟨s',p'⟩ | ⟨c,x⟩ | ⟨a,nm,s'⟩
 ·rw [h] at hT hF
  obtain ⟨e1,e2⟩:=fY h
  obtain ⟨f1,f2,f3⟩:=hF
  simp only [e1] at hT ⊢
  exact ⟨rfl,by omega,by rw [show 2001 - (st+1)=j by omega];exact hT,f3,hl,f1,f2⟩
 ·rw [h] at hT
  exact hT.symm
 ·rw [h] at hT hF
  obtain ⟨e1,e2⟩:=gY h
  obtain ⟨f1,f2,f3,f4⟩:=hF
  have hp:=o7 h
  simp only [e1] at hT ⊢
  simp only [fk,gu]
  by_cases h1:n≤l
  ·rw [if_pos h1] at hT ⊢
   exact hT.symm
  ·rw [if_neg h1] at hT ⊢
   by_cases h2:a=false
   ·rw [if_pos h2] at hT ⊢
    refine ⟨rfl,by omega,by rw [show 2001 - (st+1)=j by omega];exact hT,by omega,by omega,by simp;omega,fun x hx=>?_⟩
    rcases List.mem_cons.1 hx with rfl | hx
    ·exact eX _
    ·exact f2 x hx
   ·rw [if_neg h2] at hT ⊢
    by_cases h3:(y l).has=false
    ·rw [if_pos h3] at hT ⊢
     exact hT.symm
    ·rw [if_neg h3] at hT ⊢
     by_cases h4:(y l).code=0
     ·rw [if_pos h4] at hT ⊢
      refine ⟨rfl,by omega,by rw [show 2001 - (st+1)=j by omega];exact hT,by omega,by omega,by simp;omega,fun x hx=>?_⟩
      rcases List.mem_cons.1 hx with rfl | hx
      ·exact (nN hr (show l<n by omega)).1
      ·exact f2 x hx
     ·rw [if_neg h4] at hT ⊢
      exact hT.symm
theorem Ten.put {w:World}{g:Nat}{v0 v1 v2 v3 v4 v5 v6 v7 v8 v9:Value}(h:Ten w g v0 v1 v2 v3 v4 v5 v6 v7 v8 v9)(u0 u1 u2 u3 u4 u5 u6 u7 u8 u9:Value):Ten ((((((((((w.setCell ⟨g,0,none⟩ u0).setCell ⟨g,1,none⟩ u1).setCell ⟨g,2,none⟩ u2).setCell ⟨g,3,none⟩ u3).setCell ⟨g,4,none⟩ u4).setCell ⟨g,5,none⟩ u5).setCell ⟨g,6,none⟩ u6).setCell ⟨g,7,none⟩ u7).setCell ⟨g,8,none⟩ u8).setCell ⟨g,9,none⟩ u9) g u0 u1 u2 u3 u4 u5 u6 u7 u8 u9 :=
 (((((((((h.set0 u0).set1 u1).set2 u2).set3 u3).set4 u4).set5 u5).set6 u6).set7 u7).set8 u8).set9 u9
theorem jK {g:Nat}{u w:World}(h:Only g u w)(u0 u1 u2 u3 u4 u5 u6 u7 u8 u9:Value):Only g u ((((((((((w.setCell ⟨g,0,none⟩ u0).setCell ⟨g,1,none⟩ u1).setCell ⟨g,2,none⟩ u2).setCell ⟨g,3,none⟩ u3).setCell ⟨g,4,none⟩ u4).setCell ⟨g,5,none⟩ u5).setCell ⟨g,6,none⟩ u6).setCell ⟨g,7,none⟩ u7).setCell ⟨g,8,none⟩ u8).setCell ⟨g,9,none⟩ u9) :=
 bC (bC (bC (bC (bC (bC (bC (bC (bC (bC h 0 u0) 1 u1) 2 u2) 3 u3) 4 u4) 5 u5) 6 u6) 7 u7) 8 u8) 9 u9
def pI (w:World)(g base:Nat)(f:Nat→Ins)(cnt:Nat)(y:Nat→aw)(n:Nat)(T:Turn)(k:Nat):Prop :=
 (∃ p st l s a cap,Ten w g (.int .i64 (p:Nat)) (.slice a (List.length s) cap) (.int .i64 (st:Nat)) (.int .i64 (l:Nat)) (.bool false) (.int .i64 0) (.string ⟨#[]⟩) (.bool false) (.string ⟨#[]⟩) (.bool false)∧w.ownsRow base 9 1 (.slice a s.length cap) s.length (strs s) ∧
  st≤2000∧b9 f cnt y n (2001 - st) p st l s=T∧p≤2000∧l≤200∧s.length≤50∧(∀ x∈s,x.size≤2000)∧2002 - st≤k) ∨
 (∃ at_ sv lk c x,∃ st:Nat,Ten w g at_ sv (.int .i64 st) lk (.bool true) (.int .i64 c) (.string x) (.bool false) (.string ⟨#[]⟩) (.bool false)∧T=dx c x st) ∨
 (∃ at_ sv lk a nm,∃ st:Nat,Ten w g at_ sv (.int .i64 st) lk (.bool false) (.int .i64 0) (.string ⟨#[]⟩) (.bool a) (.string nm) (.bool true)∧T=jk a nm st)
theorem vP {w:World}{base n cap:Nat}{e:TypeId}{a:Option Addr}{xs:List Value}(h:w.ownsRow base e 1 (.slice a n cap) n xs){k:Nat}(hk:k<base)(v0 v1 v2 v3 v4 v5 v6 v7 v8 v9:Value):World.ownsRow ((((((((((w.setCell ⟨k,0,none⟩ v0).setCell ⟨k,1,none⟩ v1).setCell ⟨k,2,none⟩ v2).setCell ⟨k,3,none⟩ v3).setCell ⟨k,4,none⟩ v4).setCell ⟨k,5,none⟩ v5).setCell ⟨k,6,none⟩ v6).setCell ⟨k,7,none⟩ v7).setCell ⟨k,8,none⟩ v8).setCell ⟨k,9,none⟩ v9) base e 1 (.slice a n cap) n xs:=by
 have s:∀ {w:World} (j:Nat) (u:Value),w.ownsRow base e 1 (.slice a n cap) n xs→(w.setCell ⟨k,j,none⟩ u).ownsRow base e 1 (.slice a n cap) n xs:=fun j u h=>ownsRow_setCell_below h (a:=⟨k,j,none⟩) hk u
 exact s 9 v9 (s 8 v8 (s 7 v7 (s 6 v6 (s 5 v5 (s 4 v4 (s 3 v3 (s 2 v2 (s 1 v1 (s 0 v0 h)))))))))
theorem oa (pb po cnt cap n cap2:Nat)(a2:Option Addr)(f:Nat→Ins)(w:World)(hn:cnt≤1048576)(hv:valid f cnt=false)(hP:RowIns w pb po cnt f)(hs:∀ i,i<cnt→(f i).s.size≤maxLen) :
  Calls Tryz.prog 221 #[.agg #[.slice (some ⟨pb,po,none⟩) cnt cap],.slice a2 n cap2] w fun e w'=>e=.returned badT.v∧Below w.heap.size w w':=by
 have HP:=ae hP
 have A0:=ae ((((Below.refl w.heap.size w).alloc lr (.cells #[.slice (some ⟨pb,po,none⟩) cnt cap] 31))).alloc (by simp) (.cells #[.bool false,.int .i64 0,.string ⟨#[]⟩,.bool false,.string ⟨#[]⟩,.int .i64 0] 70))
 have hx0:=eJ (w.alloc (.cells #[.slice (some ⟨pb,po,none⟩) cnt cap] 31)) (.bool false) (.int .i64 0) (.string ⟨#[]⟩) (.bool false) (.string ⟨#[]⟩) (.int .i64 0) 70
 rw [show (w.alloc (.cells #[.slice (some ⟨pb,po,none⟩) cnt cap] 31)).heap.size=w.heap.size+1 by simp] at hx0
 have X0:=ae hx0
 have IV:=fun w' h1 h2=>dO pb po cnt cap f w' hn h1 h2 hs
 rw [hv] at IV
 have HIV:=ae IV
 clear hx0 IV hP hs hv
 go_enter Tryz.func221,Tryz.ntmps221
 go_wp2_with fail
 have P1:=ae (HP.out.below A0.out lr)
 refine (HIV.out _ P1.out.1 P1.out.2).mono ?_
 rintro e w1 ⟨rfl,hB1⟩
 have HX:=ae (X0.out.below hB1 (by simp))
 have B1:=ae (A0.out.trans (hB1.mono (by simp;omega)))
 clear hB1 A0 X0 P1
 obtain ⟨v0,q0,y0⟩:=HX.out.2 0 (by omega)
 obtain ⟨v1,q1,y1⟩:=HX.out.2 1 (by omega)
 obtain ⟨v2,q2,y2⟩:=HX.out.2 2 (by omega)
 obtain ⟨v3,q3,y3⟩:=HX.out.2 3 (by omega)
 obtain ⟨v4,q4,y4⟩:=HX.out.2 4 (by omega)
 obtain ⟨v5,q5,y5⟩:=HX.out.2 5 (by omega)
 go_wp2
 refine bodyPost_ret (v:=badT.v) (by simp [results,Tryz.results221,go_sem,Turn.v,badT,q0,q1,q2,q3,q4,q5]) rfl ⟨rfl,dk B1.out (by omega) _ _ _ _ _ _⟩
theorem ob (pb po cnt cap n cap2:Nat)(a2:Option Addr)(f:Nat→Ins)(w:World)(hn:cnt≤1048576)(hv:valid f cnt=true)(hP:RowIns w pb po cnt f)(hs:∀ i,i<cnt→(f i).s.size≤maxLen)(hn2:200<(n:Int)) :
  Calls Tryz.prog 221 #[.agg #[.slice (some ⟨pb,po,none⟩) cnt cap],.slice a2 n cap2] w fun e w'=>e=.returned badT.v∧Below w.heap.size w w':=by
 have HP:=ae hP
 have A0:=ae ((((Below.refl w.heap.size w).alloc lr (.cells #[.slice (some ⟨pb,po,none⟩) cnt cap] 31))).alloc (by simp) (.cells #[.bool false,.int .i64 0,.string ⟨#[]⟩,.bool false,.string ⟨#[]⟩,.int .i64 0] 70))
 have hx0:=eJ (w.alloc (.cells #[.slice (some ⟨pb,po,none⟩) cnt cap] 31)) (.bool false) (.int .i64 0) (.string ⟨#[]⟩) (.bool false) (.string ⟨#[]⟩) (.int .i64 0) 70
 rw [show (w.alloc (.cells #[.slice (some ⟨pb,po,none⟩) cnt cap] 31)).heap.size=w.heap.size+1 by simp] at hx0
 have X0:=ae hx0
 have IV:=fun w' h1 h2=>dO pb po cnt cap f w' hn h1 h2 hs
 rw [hv] at IV
 have HIV:=ae IV
 clear hx0 IV hP hs hv
 go_enter Tryz.func221,Tryz.ntmps221
 go_wp2_with fail
 have P1:=ae (HP.out.below A0.out lr)
 refine (HIV.out _ P1.out.1 P1.out.2).mono ?_
 rintro e w1 ⟨rfl,hB1⟩
 have HX:=ae (X0.out.below hB1 (by simp))
 have B1:=ae (A0.out.trans (hB1.mono (by simp;omega)))
 clear hB1 A0 X0 P1
 obtain ⟨v0,q0,y0⟩:=HX.out.2 0 (by omega)
 obtain ⟨v1,q1,y1⟩:=HX.out.2 1 (by omega)
 obtain ⟨v2,q2,y2⟩:=HX.out.2 2 (by omega)
 obtain ⟨v3,q3,y3⟩:=HX.out.2 3 (by omega)
 obtain ⟨v4,q4,y4⟩:=HX.out.2 4 (by omega)
 obtain ⟨v5,q5,y5⟩:=HX.out.2 5 (by omega)
 go_wp2
 refine bodyPost_ret (v:=badT.v) (by simp [results,Tryz.results221,go_sem,Turn.v,badT,q0,q1,q2,q3,q4,q5]) rfl ⟨rfl,dk B1.out (by omega) _ _ _ _ _ _⟩
theorem o8 (pb po cnt cap b2 o2 n cap2:Nat)(f:Nat→Ins)(y:Nat→aw)(w:World)(hn:cnt≤1048576)(hv:valid f cnt=true)(hn2:(n:Int)≤200)(hP:RowIns w pb po cnt f)(hY:RowReply w b2 o2 n y)(hs:∀ i,i<cnt→(f i).s.size≤maxLen)(T:Turn)(hT:T=if aZ y n=false then badT else b9 f cnt y n 2001 0 0 0 []) :
  Calls Tryz.prog 221 #[.agg #[.slice (some ⟨pb,po,none⟩) cnt cap],.slice (some ⟨b2,o2,none⟩) n cap2] w fun e w'=>e=.returned T.v∧Below w.heap.size w w':=by
 have HV:=ae (bR hv).1
 have hc2:cnt≤200:=by have:=(bR hv).2.2;omega
 have HY:=ae hY
 have HT:=ae hT
 clear hY hT
 have HP:=ae hP
 have A0:=ae ((((Below.refl w.heap.size w).alloc lr (.cells #[.slice (some ⟨pb,po,none⟩) cnt cap] 31))).alloc (by simp) (.cells #[.bool false,.int .i64 0,.string ⟨#[]⟩,.bool false,.string ⟨#[]⟩,.int .i64 0] 70))
 have hx0:=eJ (w.alloc (.cells #[.slice (some ⟨pb,po,none⟩) cnt cap] 31)) (.bool false) (.int .i64 0) (.string ⟨#[]⟩) (.bool false) (.string ⟨#[]⟩) (.int .i64 0) 70
 rw [show (w.alloc (.cells #[.slice (some ⟨pb,po,none⟩) cnt cap] 31)).heap.size=w.heap.size+1 by simp] at hx0
 have X0:=ae hx0
 have IV:=fun w' h1 h2=>dO pb po cnt cap f w' hn h1 h2 hs
 rw [hv] at IV
 have HIV:=ae IV
 clear hx0 IV hP hs hv
 go_enter Tryz.func221,Tryz.ntmps221
 go_wp2_with fail
 have P1:=ae (HP.out.below A0.out lr)
 refine (HIV.out _ P1.out.1 P1.out.2).mono ?_
 rintro e w1 ⟨rfl,hB1⟩
 have c1:w1.cell? ⟨w.heap.size,0,none⟩=some (.slice (some ⟨pb,po,none⟩) cnt cap):=(hB1.cell (p:=⟨w.heap.size,0,none⟩) (by simp;omega)).trans (by simp)
 have HX:=ae (X0.out.below hB1 (by simp))
 have B1:=ae (A0.out.trans (hB1.mono (by simp;omega)))
 have z1:w.heap.size+1<w1.heap.size:=HX.out.1
 clear hB1 A0 X0 P1
 have HY1:=ae (HY.out.below B1.out lr)
 go_wp2_with fail
 go_loopw [5] (fun i wr=>∃ j:Nat,j≤n∧i=.int .i64 j∧Hid (aZ y j=true)∧Below w1.heap.size w1 wr) (fun i _=>n - (intOf i).toNat)
 case atStart=>exact ⟨0,by omega,rfl,rfl,Below.refl _ _⟩
 case round =>
  obtain ⟨j,hj,rfl,HK,hB⟩:=hrel
  have HX2:=ae (HX.out.below hB HX.out.1)
  have HB:=ae (B1.out.trans (hB.mono B1.out.size))
  have cp:wr.cell? ⟨w.heap.size,0,none⟩=some (.slice (some ⟨pb,po,none⟩) cnt cap):=(hB.cell (p:=⟨w.heap.size,0,none⟩) (by simp;omega)).trans c1
  have zr:w.heap.size+1<wr.heap.size:=HX2.out.1
  have HBw:=ae hB
  clear hB
  by_cases hlt:j<n
  ·obtain ⟨d0,d1,d2⟩:=(HY.out.below HB.out lr).2 j hlt
   obtain ⟨v0,q0,y0⟩:=HX2.out.2 0 (by omega)
   obtain ⟨v1,q1,y1⟩:=HX2.out.2 1 (by omega)
   obtain ⟨v2,q2,y2⟩:=HX2.out.2 2 (by omega)
   obtain ⟨v3,q3,y3⟩:=HX2.out.2 3 (by omega)
   obtain ⟨v4,q4,y4⟩:=HX2.out.2 4 (by omega)
   obtain ⟨v5,q5,y5⟩:=HX2.out.2 5 (by omega)
   by_cases g1:((y j).text.size:Int)≤2000
   ·by_cases g2:0≤(y j).code
    ·by_cases g3:(y j).code≤7
     ·go_wp2
      refine ⟨⟨j+1,by omega,by go_num,?_,?_⟩,by simp [intOf];omega⟩
      ·show aZ y (j+1)=true
       simp only [aZ,HK.out,bv,Bool.true_and,decide_eq_true_eq]
       omega
      ·exact HBw.out
     ·go_wp2
      have eT:T=badT:=by rw [HT.out,if_pos (cV hlt (by simp only [bv,decide_eq_false_iff_not];omega))]
      refine bodyPost_ret (v:=badT.v) (by simp [results,Tryz.results221,go_sem,Turn.v,badT,q0,q1,q2,q3,q4,q5]) rfl ⟨by rw [eT],dk HB.out (by omega) _ _ _ _ _ _⟩
    ·go_wp2
     have eT:T=badT:=by rw [HT.out,if_pos (cV hlt (by simp only [bv,decide_eq_false_iff_not];omega))]
     refine bodyPost_ret (v:=badT.v) (by simp [results,Tryz.results221,go_sem,Turn.v,badT,q0,q1,q2,q3,q4,q5]) rfl ⟨by rw [eT],dk HB.out (by omega) _ _ _ _ _ _⟩
   ·go_wp2
    have eT:T=badT:=by rw [HT.out,if_pos (cV hlt (by simp only [bv,decide_eq_false_iff_not];omega))]
    refine bodyPost_ret (v:=badT.v) (by simp [results,Tryz.results221,go_sem,Turn.v,badT,q0,q1,q2,q3,q4,q5]) rfl ⟨by rw [eT],dk HB.out (by omega) _ _ _ _ _ _⟩
  ·have e:j=n:=by omega
   subst e
   have eT:T=b9 f cnt y j 2001 0 0 0 []:=by rw [HT.out,if_neg (by simp [HK.out])]
   have ET:=ae eT
   clear eT HT HY1
   have RN:=ae (cz wr (.int .i64 0) (.slice none 0 0) (.int .i64 0) (.int .i64 0) (.bool false) (.int .i64 0) (.string ⟨#[]⟩) (.bool false) (.string ⟨#[]⟩) (.bool false) 297 wr.heap.size rfl)
   have A2:=ae ((Below.refl wr.heap.size wr).alloc lr (.cells #[.int .i64 0,.slice none 0 0,.int .i64 0,.int .i64 0,.bool false,.int .i64 0,.string ⟨#[]⟩,.bool false,.string ⟨#[]⟩,.bool false] 297))
   have XN:=ae (HX2.out.below A2.out HX2.out.1)
   have BN:=ae (HB.out.trans (A2.out.mono HB.out.size))
   have cN:=(A2.out.cell (p:=⟨w.heap.size,0,none⟩) (by simp;omega)).trans cp
   have hrb:wr.heap.size<(wr.alloc (.cells #[.int .i64 0,.slice none 0 0,.int .i64 0,.int .i64 0,.bool false,.int .i64 0,.string ⟨#[]⟩,.bool false,.string ⟨#[]⟩,.bool false] 297)).heap.size:=by simp
   go_wp2_with fail
   clear c1 cp
   generalize wr.alloc (.cells #[.int .i64 0,.slice none 0 0,.int .i64 0,.int .i64 0,.bool false,.int .i64 0,.string ⟨#[]⟩,.bool false,.string ⟨#[]⟩,.bool false] 297)=W2 at RN XN BN cN hrb ⊢
   generalize wr.heap.size=rb at RN zr hrb ⊢
   have hyb:b2<rb:=ll HY.out.1 (by omega)
   have hpb:pb<rb:=ll HP.out.1 (by omega)
   have S0:Hid (pI W2 rb W2.heap.size f cnt y j T 2002):=.inl ⟨0,0,0,[],none,0,RN.out,World.ownsRow_nil _ _ _ _,by omega,ET.out.symm,by omega,by omega,by simp,by simp,by omega⟩
   have PN:=ae (HP.out.below BN.out lr)
   have YN:=ae (HY.out.below BN.out lr)
   clear RN ET HX2 HB HBw hlt HX B1 HP HY
   go_loopg [] 2002 (fun g wr=>pI wr rb W2.heap.size f cnt y j T g∧Only rb W2 wr)
   case atStart=>exact ⟨S0.out,Only.refl _ _⟩
   case round =>
    obtain ⟨hst,hO⟩:=hrel
    have HO:=ae hO
    have cw:wr.cell? ⟨w.heap.size,0,none⟩=some (.slice (some ⟨pb,po,none⟩) cnt cap):=(hO.cell w.heap.size 0 (by omega) (by omega)).trans cN
    have hbr:rb<wr.heap.size:=ll hrb hO.size
    have hLo:=ae (hO.below (Nat.le_refl rb) (Nat.le_of_lt hrb))
    have BW:=ae (BN.out.trans (hO.below (show w.heap.size≤rb by omega) (by omega)))
    have XW:=ae (XN.out.only hO (by omega))
    have zw:w.heap.size+1<wr.heap.size:=XW.out.1
    clear hO
    rcases hst with ⟨p,st,l,s,a,cap',hT10,hown,k1,k2,k3,k4,k5,k6,k7⟩ | ⟨at_,sv,lk,c,x,st,hT10,hE⟩ | ⟨at_,sv,lk,a,nm,st,hT10,hE⟩
    ·have T10:=ae hT10
     have OW:=ae hown
     have HSo:=ae (vO k1 k4 k5 k6 HV.out hc2 HK.out k2)
     have K6:=ae k6
     have PW:Hid (RowIns wr pb po cnt f):=⟨ll PN.out.1 HO.out.size,fun i hi=>(PN.out.2 i hi).below hLo.out hpb⟩
     have YW:Hid (RowReply wr b2 o2 j y):=⟨ll YN.out.1 HO.out.size,fun i hi=>(YN.out.2 i hi).below hLo.out hyb⟩
     obtain ⟨chl,⟨c0,f0⟩,⟨c1,f1⟩,⟨c2,f2⟩,⟨c3,f3⟩,⟨c4,f4⟩,⟨c5,f5⟩,⟨c6,f6⟩,⟨c7,f7⟩,⟨c8,f8⟩,c9,f9⟩:=hT10
     clear hown k2 k6
     go_wp2_with fail
     refine (rz pb po cnt cap p st l f a s cap' b2 o2 j cap2 W2.heap.size y _ PW.out YW.out OW.out k3 k1 k4 k5 K6.out HV.out).mono ?_
     rintro e w3 ⟨v,rfl,hso,hB3⟩
     have T3:=ae (T10.out.below hB3 hbr)
     have O3:=ae (HO.out.bel hB3)
     clear chl c0 f0 c1 f1 c2 f2 c3 f3 c4 f4 c5 f5 c6 f6 c7 f7 c8 f8 c9 f9
     clear hB3
     have hNx:=HSo.out
     obtain ⟨g,rfl⟩:∃ g,gk=g+1:=⟨gk - 1,by omega⟩
     generalize ez f cnt y j p st l s=so at hso hNx
     rcases so with ⟨p',st',l',s'⟩ | ⟨c,x,k⟩ | ⟨a1,nm,k⟩
     ·obtain ⟨a',c',rfl,ho'⟩:=hso
      obtain ⟨m1,m2,m3,m4,m5,m6,m7⟩:=hNx
      have OE:=ae ho'
      have M3:=ae m3
      have M7:=ae m7
      have M1:=ae m1
      clear ho' m3 m7 m1
      obtain ⟨ehl,⟨e0,u0⟩,⟨e1,u1⟩,⟨e2,u2⟩,⟨e3,u3⟩,⟨e4,u4⟩,⟨e5,u5⟩,⟨e6,u6⟩,⟨e7,u7⟩,⟨e8,u8⟩,e9,u9⟩:=T3.out
      go_wp2
      go_roundg g
      case measure=>omega
      case rel=>exact ⟨.inl ⟨p',st',l',s',a',c',T3.out.put _ _ _ _ _ _ _ _ _ _,aT (vP OE.out hbr _ _ _ _ _ _ _ _ _ _) HO.out.size,m2,M3.out,m4,m5,m6,M7.out,by have:=M1.out;omega⟩,jK O3.out _ _ _ _ _ _ _ _ _ _⟩
     ·obtain ⟨at_,a',n',c',lk,rfl⟩:=hso
      have hE:T=dx c x k:=hNx
      have HE:=ae hE
      clear hE hNx
      obtain ⟨ehl,⟨e0,u0⟩,⟨e1,u1⟩,⟨e2,u2⟩,⟨e3,u3⟩,⟨e4,u4⟩,⟨e5,u5⟩,⟨e6,u6⟩,⟨e7,u7⟩,⟨e8,u8⟩,e9,u9⟩:=T3.out
      go_wp2
      go_roundg g
      case measure=>omega
      case rel=>exact ⟨.inr (.inl ⟨_,_,_,_,_,_,T3.out.put _ _ _ _ _ _ _ _ _ _,HE.out⟩),jK O3.out _ _ _ _ _ _ _ _ _ _⟩
     ·obtain ⟨at_,a',n',c',lk,rfl⟩:=hso
      have hE:T=jk a1 nm k:=hNx
      have HE:=ae hE
      clear hE hNx
      obtain ⟨ehl,⟨e0,u0⟩,⟨e1,u1⟩,⟨e2,u2⟩,⟨e3,u3⟩,⟨e4,u4⟩,⟨e5,u5⟩,⟨e6,u6⟩,⟨e7,u7⟩,⟨e8,u8⟩,e9,u9⟩:=T3.out
      go_wp2
      go_roundg g
      case measure=>omega
      case rel=>exact ⟨.inr (.inr ⟨_,_,_,_,_,_,T3.out.put _ _ _ _ _ _ _ _ _ _,HE.out⟩),jK O3.out _ _ _ _ _ _ _ _ _ _⟩
    ·have HE:=ae hE
     obtain ⟨chl,⟨c0,f0⟩,⟨c1,f1⟩,⟨c2,f2⟩,⟨c3,f3⟩,⟨c4,f4⟩,⟨c5,f5⟩,⟨c6,f6⟩,⟨c7,f7⟩,⟨c8,f8⟩,c9,f9⟩:=hT10
     obtain ⟨v0,q0,y0⟩:=XW.out.2 0 (by omega)
     obtain ⟨v1,q1,y1⟩:=XW.out.2 1 (by omega)
     obtain ⟨v2,q2,y2⟩:=XW.out.2 2 (by omega)
     obtain ⟨v3,q3,y3⟩:=XW.out.2 3 (by omega)
     obtain ⟨v4,q4,y4⟩:=XW.out.2 4 (by omega)
     obtain ⟨v5,q5,y5⟩:=XW.out.2 5 (by omega)
     clear hE
     go_wp2
     refine bodyPost_ret (v:=T.v) (by rw [HE.out];simp [results,Tryz.results221,go_sem,Turn.v,dx,q0,q1,q2,q3,q4,q5]) rfl ⟨rfl,dk BW.out (by omega) _ _ _ _ _ _⟩
    ·have HE:=ae hE
     obtain ⟨chl,⟨c0,f0⟩,⟨c1,f1⟩,⟨c2,f2⟩,⟨c3,f3⟩,⟨c4,f4⟩,⟨c5,f5⟩,⟨c6,f6⟩,⟨c7,f7⟩,⟨c8,f8⟩,c9,f9⟩:=hT10
     obtain ⟨v0,q0,y0⟩:=XW.out.2 0 (by omega)
     obtain ⟨v1,q1,y1⟩:=XW.out.2 1 (by omega)
     obtain ⟨v2,q2,y2⟩:=XW.out.2 2 (by omega)
     obtain ⟨v3,q3,y3⟩:=XW.out.2 3 (by omega)
     obtain ⟨v4,q4,y4⟩:=XW.out.2 4 (by omega)
     obtain ⟨v5,q5,y5⟩:=XW.out.2 5 (by omega)
     clear hE
     go_wp2
     refine bodyPost_ret (v:=T.v) (by rw [HE.out];simp [results,Tryz.results221,go_sem,Turn.v,jk,q0,q1,q2,q3,q4,q5]) rfl ⟨rfl,dk BW.out (by omega) _ _ _ _ _ _⟩
theorem oc (pb po cnt cap b2 o2 n cap2:Nat)(f:Nat→Ins)(y:Nat→aw)(w:World)(hn:cnt≤1048576)(hP:RowIns w pb po cnt f)(hY:RowReply w b2 o2 n y)(hs:∀ i,i<cnt→(f i).s.size≤maxLen) :
  Calls Tryz.prog 221 #[.agg #[.slice (some ⟨pb,po,none⟩) cnt cap],.slice (some ⟨b2,o2,none⟩) n cap2] w fun e w'=>e=.returned (fu f cnt y n).v∧Below w.heap.size w w':=by
 unfold fu
 by_cases h1:valid f cnt=false
 ·rw [if_pos h1]
  exact oa pb po cnt cap n cap2 _ f w hn h1 hP hs
 ·have h1':valid f cnt=true:=by simpa using h1
  rw [if_neg h1]
  by_cases h2:200<n
  ·rw [if_pos h2]
   exact ob pb po cnt cap n cap2 _ f w hn h1' hP hs (by omega)
  ·rw [if_neg h2]
   exact o8 pb po cnt cap b2 o2 n cap2 f y w hn h1' (by omega) hP hY hs _ rfl
end Go.Proofs.YtkophfgkcijjkaaGreatDoor.Vp
