import Derived.Test.YtfnbojfnelfnkaaGreatDoorZH
import Derived.Test.YtfnbojfnelfnkaaGreatDoorYL
import Derived.Test.YtfnbojfnelfnkaaGreatDoorYK
set_option maxRecDepth 100000
set_option maxHeartbeats 8000000
namespace Go.Proofs.YtfnbojfnelfnkaaGreatDoor.Vp
open Go.RowKit
theorem law_clean (a0:Option Addr)(n0 c0:Nat)(f0:Nat→Source)(a1:Option Addr)(n1 c1:Nat)(f1:Nat→Target)(t:ByteArray)(w:World)(hn0:(n0:Int)≤9223372036854775807)(hn1:(n1:Int)≤9223372036854775807)
  (hv0:SlSource w a0 n0 f0) (hs0:∀ i,i<n0→(f0 i).name.size≤maxLen∧(f0 i).text.size≤maxLen) (hv1:SlTarget w a1 n1 f1) (hs1:∀ i,i<n1→SizedTarget (f1 i)) (ht:t.size≤maxLen) (hT:Tab w) (hT2:Tab2 w) (hPow:Pow w) :
  Calls Tryz.prog 3 #[.agg #[.slice a0 n0 c0,.slice a1 n1 c1],.string t] w fun e w'=>e=.returned (.bool true)∧Below w.heap.size w w':=by
 have HV0:=hide hv0
 have HV1:=hide hv1
 have HS0:=hide hs0
 have HS1:=hide hs1
 have HT:=hide hT
 have HT2:=hide hT2
 have HPOW:=hide hPow
 have htb:=hT2.1
 have ht2:(t.size:Int)≤9223372036854775807:=by unfold maxLen at ht;omega
 clear hv0 hv1 hs0 hs1 hT hT2 hPow ht
 obtain ⟨C,T,L,hC⟩:∃ C T L,(buildP ⟨n0,f0,n1,f1⟩ t).2=⟨C,T,L⟩:=⟨_,_,_,rfl⟩
 have hl:L.length≤60:=by have:=build_chain ⟨n0,f0,n1,f1⟩ t;rw [hC] at this;exact this
 have HC:=hide hC
 clear hC
 have B0:=hide ((Below.refl w.heap.size w).alloc (Nat.le_refl w.heap.size) (.cells #[.slice a0 n0 c0,.slice a1 n1 c1] 25))
 have KA0:=hide (two_box w (.slice a0 n0 c0) (.slice a1 n1 c1) 25)
 go_enter Tryz.func3,Tryz.ntmps3
 by_cases hbig:(1048576:Int)<t.size
 ·go_wp2
  go_ret
  exact ⟨rfl,B0.out⟩
 go_wp2_with fail
 generalize w.alloc (.cells #[.slice a0 n0 c0,.slice a1 n1 c1] 25)=W at B0 KA0 ⊢
 refine (szSpace_any a0 n0 c0 f0 a1 n1 c1 f1 1048576 _ (by omega) (by omega) hn0 hn1 (HV0.out.below B0.out lr) HS0.out (HV1.out.below B0.out lr) HS1.out).mono ?_
 rintro e w1 ⟨r,rfl,hr1,hr2,hr3,hB⟩
 have KA1:=hide (KA0.out.below hB)
 have B1:=hide (B0.out.trans (hB.mono B0.out.size))
 clear hB B0 KA0
 by_cases hr:r<0
 ·clear hr3
  go_wp2
  go_ret
  exact ⟨rfl,B1.out⟩
 obtain ⟨hm0,hm1,hF⟩:=hr3 (by omega)
 have HF:=hide hF
 have hp0:n0≤1048576:=by omega
 have hp1:n1≤1048576:=by omega
 clear hr3 hF hm0 hm1
 have KAc0:=KA1.out.c0
 have KAc1:=KA1.out.c1
 go_wp2_with fail
 refine (toSpace_any a0 n0 c0 f0 a1 n1 c1 f1 _ hp0 hp1 (HV0.out.below B1.out lr) (HV1.out.below B1.out lr) HF.out).mono ?_
 rintro e w2 ⟨s0,s1,rfl,hS0,hg0,hS1,hg1,hB⟩
 have S0:=hide hS0.sl
 have S1:=hide hS1.row.sl
 clear hS0 hS1 hg0 hg1
 clear KAc0 KAc1
 have KA2:=hide (KA1.out.below hB)
 have B2:=hide (B1.out.trans (hB.mono B1.out.size))
 clear KA1 B1
 clear hB
 go_wp2_with fail
 refine (specClean_any (S:=⟨n0,f0,n1,f1⟩) (a0:=some ⟨s0,0,none⟩) (c0:=n0) (a1:=some ⟨s1,0,none⟩) (c1:=n1) _ t S0.out S1.out hp0 hp1 HF.out (fun i hi=>(HS1.out i hi).2.2)).mono ?_
 rintro e w3 ⟨rv,rfl,hR,hB⟩
 rw [HC.out] at hR
 obtain ⟨pa,pc,rfl,hO⟩:=hR
 obtain ⟨pg,hG⟩:=ch_of hO
 have HPX:=hide hG
 clear hO hG
 have KA3:=hide (KA2.out.below hB)
 have B3:=hide (B2.out.trans (hB.mono B2.out.size))
 clear KA2 B2
 have HP3:=HPX
 clear HPX hB S0 S1
 have DB:=hide ((Below.refl w3.heap.size w3).alloc lr (.cells #[.int .i64 C,.string T,.slice pa L.length pc] 29))
 have K6X:=hide (three_box w3 (.int .i64 C) (.string T) (.slice pa L.length pc) 29)
 have KA4:=hide (KA3.out.below DB.out)
 have HP4:=hide (HP3.out.below DB.out)
 have B4:=hide (B3.out.trans (DB.out.mono B3.out.size))
 clear KA3 HP3 B3
 have K64:=K6X
 clear K6X DB
 have KAc0:=KA4.out.c0
 have KAc1:=KA4.out.c1
 go_wp2_with fail
 generalize hw4:w3.alloc (.cells #[.int .i64 C,.string T,.slice pa L.length pc] 29)=w4 at KA4 HP4 K64 B4 KAc0 KAc1 ⊢
 have hz4:w4.heap.size=w3.heap.size+1:=by rw [← hw4];simp
 clear hw4
 generalize w2.heap.size=bp at HP4
 generalize w3.heap.size=b6 at K64 HP4 hz4 ⊢
 refine (toSpace_anyO a0 n0 c0 f0 a1 n1 c1 f1 _ hp0 hp1 (HV0.out.below B4.out lr) (HV1.out.below B4.out lr) HF.out).mono ?_
 rintro e w5 ⟨x0,x1,rfl,hX0,hx0,hX1,hx1,hB⟩
 have SCX:=hide (scells_copy (lo:=w4.heap.size) hX0 hX1 hx0 hx1 HF.out)
 have XSX:=hide hX0.row.sl
 have XTX:=hide hX1.row.sl
 have h45:w4.heap.size≤w5.heap.size:=hB.size
 have hwl:w.heap.size<w4.heap.size:=KA4.out.lt
 clear hX0 hX1 hx0 hx1
 clear KAc0 KAc1
 have KA5:=hide (KA4.out.below hB)
 have HP5:=hide (HP4.out.below hB)
 have K65:=hide (K64.out.below hB)
 have B5:=hide (B4.out.trans (hB.mono B4.out.size))
 clear KA4 HP4 K64 B4
 have SC5:=SCX
 clear SCX
 have XS5:=XSX
 clear XSX
 have XT5:=XTX
 clear XTX
 clear hB
 have DB:=hide ((Below.refl w5.heap.size w5).alloc lr (.cells #[.slice (some ⟨x0,0,none⟩) n0 n0,.slice (some ⟨x1,0,none⟩) n1 n1] 34))
 have K8X:=hide (two_box w5 (.slice (some ⟨x0,0,none⟩) n0 n0) (.slice (some ⟨x1,0,none⟩) n1 n1) 34)
 have KA6:=hide (KA5.out.below DB.out)
 have HP6:=hide (HP5.out.below DB.out)
 have K66:=hide (K65.out.below DB.out)
 have SC6:=hide (SC5.out.below DB.out)
 have XS6:=hide (XS5.out.below DB.out lr)
 have XT6:=hide (XT5.out.below DB.out lr)
 have B6:=hide (B5.out.trans (DB.out.mono B5.out.size))
 clear KA5 HP5 K65 SC5 XS5 XT5 B5
 have K86:=K8X
 clear K8X DB
 have K8c0:=K86.out.c0
 have K8c1:=K86.out.c1
 go_wp2_with fail
 generalize hw6:w5.alloc (.cells #[.slice (some ⟨x0,0,none⟩) n0 n0,.slice (some ⟨x1,0,none⟩) n1 n1] 34)=w6 at KA6 HP6 K66 SC6 XS6 XT6 K86 B6 K8c0 K8c1 ⊢
 have hz6:w6.heap.size=w5.heap.size+1:=by rw [← hw6];simp
 clear hw6
 generalize w5.heap.size=hi at SC6 K86 K8c0 K8c1 h45 hz6 ⊢
 generalize w4.heap.size=lo at SC6 h45 hwl hz4
 refine (implClean_any (S:=⟨n0,f0,n1,f1⟩) (a0:=some ⟨x0,0,none⟩) (c0:=n0) (a1:=some ⟨x1,0,none⟩) (c1:=n1) _ t XS6.out XT6.out hp0 hp1 HF.out (HT.out.below B6.out HT.out.1) (HT2.out.below B6.out htb) (HPOW.out.below B6.out lr)).mono ?_
 rintro e w7 ⟨rv,rfl,hR,hB⟩
 rw [HC.out] at hR
 obtain ⟨ga,gc,rfl,hO⟩:=hR
 obtain ⟨gg,hG⟩:=ch_of hO
 have HGX:=hide hG
 clear hO hG
 have h67:w6.heap.size≤w7.heap.size:=hB.size
 clear K8c0 K8c1
 have KA7:=hide (KA6.out.below hB)
 have HP7:=hide (HP6.out.below hB)
 have K67:=hide (K66.out.below hB)
 have SC7:=hide (SC6.out.below hB)
 have XS7:=hide (XS6.out.below hB lr)
 have XT7:=hide (XT6.out.below hB lr)
 have K87:=hide (K86.out.below hB)
 have B7:=hide (B6.out.trans (hB.mono B6.out.size))
 clear KA6 HP6 K66 SC6 XS6 XT6 K86 B6
 have HG7:=HGX
 clear HGX hB
 have DB:=hide ((Below.refl w7.heap.size w7).alloc lr (.cells #[.int .i64 C,.string T,.slice ga L.length gc] 29))
 have K9X:=hide (three_box w7 (.int .i64 C) (.string T) (.slice ga L.length gc) 29)
 have KA8:=hide (KA7.out.below DB.out)
 have HP8:=hide (HP7.out.below DB.out)
 have K68:=hide (K67.out.below DB.out)
 have SC8:=hide (SC7.out.below DB.out)
 have XS8:=hide (XS7.out.below DB.out lr)
 have XT8:=hide (XT7.out.below DB.out lr)
 have K88:=hide (K87.out.below DB.out)
 have HG8:=hide (HG7.out.below DB.out)
 have B8:=hide (B7.out.trans (DB.out.mono B7.out.size))
 clear KA7 HP7 K67 SC7 XS7 XT7 K87 HG7 B7
 have K98:=K9X
 clear K9X DB
 have K9c0:=K98.out.c0
 have K9c1:=K98.out.c1
 have K9c2:=K98.out.c2
 have K6c0:=K68.out.c0
 have K6c1:=K68.out.c1
 have K6c2:=K68.out.c2
 go_wp2_with fail
 generalize hw8:w7.alloc (.cells #[.int .i64 C,.string T,.slice ga L.length gc] 29)=w8 at KA8 HP8 K68 SC8 XS8 XT8 K88 HG8 K98 B8 K9c0 K9c1 K9c2 K6c0 K6c1 K6c2 ⊢
 clear hw8
 generalize w7.heap.size=b9 at HG8 K98 K9c0 K9c1 K9c2 h67 ⊢
 generalize w6.heap.size=b2 at HG8 h67 hz6
 refine (eqResult_any ⟨C,T,L.length,btF L⟩ ga gc pa pc _ (by show L.length≤1048576;omega) HG8.out.sl HP8.out.sl).mono ?_
 rintro e w9 ⟨rfl,hB⟩
 clear K9c0 K9c1 K9c2 K6c0 K6c1 K6c2
 have KA9:=hide (KA8.out.below hB)
 have HP9:=hide (HP8.out.below hB)
 have K69:=hide (K68.out.below hB)
 have SC9:=hide (SC8.out.below hB)
 have XS9:=hide (XS8.out.below hB lr)
 have XT9:=hide (XT8.out.below hB lr)
 have K89:=hide (K88.out.below hB)
 have HG9:=hide (HG8.out.below hB)
 have K99:=hide (K98.out.below hB)
 have B9:=hide (B8.out.trans (hB.mono B8.out.size))
 clear KA8 HP8 K68 SC8 XS8 XT8 K88 HG8 K98 B8
 clear hB
 have KAc0:=KA9.out.c0
 have KAc1:=KA9.out.c1
 have K8c0:=K89.out.c0
 have K8c1:=K89.out.c1
 go_wp2_with fail
 have k8l:=K89.out.lt
 go_region_with (first
  | (go_at_call 8;refine (toSpace_any a0 n0 c0 f0 a1 n1 c1 f1 _ hp0 hp1 ?_ ?_ HF.out).mono ?_;(first | exact HV0.out.below B9.out lr | exact HV0.out.below B9.out.drew lr);(first | exact HV1.out.below B9.out lr | exact HV1.out.below B9.out.drew lr);rintro e w10 ⟨i0,i1,rfl,hS0,hg0,hS1,hg1,hB7⟩;have T0:=hide hS0.sl;have T1:=hide hS1.row.sl;have B7:Hid (Below w9.heap.size w9 w10):=⟨hB7.os,hB7.tape,hB7.output,hB7.size,hB7.block⟩;have x70:=(B7.out.cell (p:=⟨hi,0,none⟩) k8l).trans K8c0;have x71:=(B7.out.cell (p:=⟨hi,1,none⟩) k8l).trans K8c1;have U0:=hide (XS9.out.below B7.out lr);have U1:=hide (XT9.out.below B7.out lr);clear hS0 hS1 hg0 hg1 hB7)
  | (go_at_call 11;refine (eqSpace_any (some ⟨x0,0,none⟩) (some ⟨i0,0,none⟩) n0 n0 n0 f0 (some ⟨x1,0,none⟩) (some ⟨i1,0,none⟩) n1 n1 n1 f1 _ hp0 hp1 U0.out T0.out U1.out T1.out HF.out).mono ?_;rintro e w11 ⟨rfl,hB8⟩))
 all_goals
  have E11:=hide (B7.out.trans (hB8.mono B7.out.size))
  clear x70 x71 U0 U1 T0 T1 hB8 B7 k8l
  clear KAc0 KAc1 K8c0 K8c1
  have KA10:=hide (KA9.out.below E11.out)
  have HP10:=hide (HP9.out.below E11.out)
  have K610:=hide (K69.out.below E11.out)
  have SC10:=hide (SC9.out.below E11.out)
  have XS10:=hide (XS9.out.below E11.out lr)
  have XT10:=hide (XT9.out.below E11.out lr)
  have K810:=hide (K89.out.below E11.out)
  have HG10:=hide (HG9.out.below E11.out)
  have K910:=hide (K99.out.below E11.out)
  have B10:=hide (B9.out.trans (E11.out.mono B9.out.size))
  clear KA9 HP9 K69 SC9 XS9 XT9 K89 HG9 K99 B9
  clear E11
  have K8c0:=K810.out.c0
  have K8c1:=K810.out.c1
  go_wp2_with fail
  refine (markSpace_any (fun k=>lo≤k∧k<hi) (some ⟨x0,0,none⟩) (some ⟨x1,0,none⟩) n0 n0 n1 n1 _ (by omega) (by omega) SC10.out).mono ?_
  rintro e w12 ⟨rk,rfl,_,hW⟩
  clear K8c0 K8c1
  have hK6l:b6<lo:=by omega
  have KA11:=hide (KA10.out.touch hW (by omega))
  have HP11:=hide (HP10.out.touch hW (fun k hk=>by omega))
  have K611:=hide (K610.out.touch hW (by omega))
  have HG11:=hide (HG10.out.touch hW (fun k hk=>by omega))
  have K911:=hide (K910.out.touch hW (by omega))
  have B11:=hide (B10.out.trans (hW.toBelow (fun k hk=>by omega) B10.out.size))
  clear KA10 HP10 K610 SC10 XS10 XT10 K810 HG10 K910 B10 hW
  have K9c0:=K911.out.c0
  have K9c1:=K911.out.c1
  have K9c2:=K911.out.c2
  have K6c0:=K611.out.c0
  have K6c1:=K611.out.c1
  have K6c2:=K611.out.c2
  go_wp2_with fail
  refine (eqResult_any ⟨C,T,L.length,btF L⟩ ga gc pa pc _ (by show L.length≤1048576;omega) HG11.out.sl HP11.out.sl).mono ?_
  rintro e w13 ⟨rfl,hB⟩
  clear K9c0 K9c1 K9c2 K6c0 K6c1 K6c2
  have KA12:=hide (KA11.out.below hB)
  have HP12:=hide (HP11.out.below hB)
  have K612:=hide (K611.out.below hB)
  have HG12:=hide (HG11.out.below hB)
  have K912:=hide (K911.out.below hB)
  have B12:=hide (B11.out.trans (hB.mono B11.out.size))
  clear KA11 HP11 K611 HG11 K911 B11
  clear hB
  have K9c0:=K912.out.c0
  have K9c1:=K912.out.c1
  have K9c2:=K912.out.c2
  have GE:=hide (fun hz:L.length≠0=>HG12.out.ge hz)
  go_wp2_with fail
  refine (markResult_any C T ga L.length gc gg _ (by omega) HG12.out.room).mono ?_
  rintro e w14 ⟨rfl,hMk,hW⟩
  have MK:=hide hMk
  clear hMk
  clear K9c0 K9c1 K9c2
  have KA13:=hide (KA12.out.touch hW (by rintro ⟨h,h2⟩;have:=GE.out h;omega))
  have HP13:=hide (HP12.out.touch hW (by rintro x ⟨h,h2⟩;have:=GE.out h;omega))
  have K613:=hide (K612.out.touch hW (by rintro ⟨h,h2⟩;have:=GE.out h;omega))
  have K913:=hide (K912.out.touch hW (by rintro ⟨h,h2⟩;have:=GE.out h;omega))
  have B13:=hide (B12.out.trans (hW.toBelow (fun k hk=>by obtain ⟨h,h2⟩:=hk;have:=GE.out h;omega) B12.out.size))
  clear KA12 HP12 K612 HG12 K912 B12 hW
  have K9c0:=K913.out.c0
  have K9c1:=K913.out.c1
  have K9c2:=K913.out.c2
  go_wp2_with fail
  refine (heldResult_any C T ga L.length gc gg _ (by omega) MK.out).mono ?_
  rintro e w15 ⟨rfl,hB⟩
  clear MK
  clear K9c0 K9c1 K9c2
  have KA14:=hide (KA13.out.below hB)
  have HP14:=hide (HP13.out.below hB)
  have K614:=hide (K613.out.below hB)
  have K914:=hide (K913.out.below hB)
  have B14:=hide (B13.out.trans (hB.mono B13.out.size))
  clear KA13 HP13 K613 K913 B13
  clear hB
  have KAc0:=KA14.out.c0
  have KAc1:=KA14.out.c1
  have hq1:¬ (((1+L.length:Nat):Int)<0):=by omega
  go_wp2_with fail
  refine (toSpace_any a0 n0 c0 f0 a1 n1 c1 f1 _ hp0 hp1 (HV0.out.below B14.out lr) (HV1.out.below B14.out lr) HF.out).mono ?_
  rintro e w16 ⟨z0,z1,rfl,hS0,hg0,hS1,hg1,hB⟩
  have S0:=hide hS0.sl
  have S1:=hide hS1.row.sl
  clear hS0 hS1 hg0 hg1
  clear KAc0 KAc1
  have KA15:=hide (KA14.out.below hB)
  have HP15:=hide (HP14.out.below hB)
  have K615:=hide (K614.out.below hB)
  have K915:=hide (K914.out.below hB)
  have B15:=hide (B14.out.trans (hB.mono B14.out.size))
  clear KA14 HP14 K614 K914 B14
  clear hB
  go_wp2_with fail
  refine (implClean_any (S:=⟨n0,f0,n1,f1⟩) (a0:=some ⟨z0,0,none⟩) (c0:=n0) (a1:=some ⟨z1,0,none⟩) (c1:=n1) _ t S0.out S1.out hp0 hp1 HF.out (HT.out.below B15.out HT.out.1) (HT2.out.below B15.out htb) (HPOW.out.below B15.out lr)).mono ?_
  rintro e w17 ⟨rv,rfl,hR,hB⟩
  rw [HC.out] at hR
  obtain ⟨ha,hc,rfl,hO⟩:=hR
  obtain ⟨hg,hG⟩:=ch_of hO
  have HHX:=hide hG
  clear hO hG
  have KA16:=hide (KA15.out.below hB)
  have HP16:=hide (HP15.out.below hB)
  have K616:=hide (K615.out.below hB)
  have K916:=hide (K915.out.below hB)
  have B16:=hide (B15.out.trans (hB.mono B15.out.size))
  clear KA15 HP15 K615 K915 B15
  have HH16:=HHX
  clear HHX hB
  have DB:=hide ((Below.refl w17.heap.size w17).alloc lr (.cells #[.int .i64 C,.string T,.slice ha L.length hc] 29))
  have K14X:=hide (three_box w17 (.int .i64 C) (.string T) (.slice ha L.length hc) 29)
  have KA17:=hide (KA16.out.below DB.out)
  have HP17:=hide (HP16.out.below DB.out)
  have K617:=hide (K616.out.below DB.out)
  have K917:=hide (K916.out.below DB.out)
  have HH17:=hide (HH16.out.below DB.out)
  have B17:=hide (B16.out.trans (DB.out.mono B16.out.size))
  clear KA16 HP16 K616 K916 HH16 B16
  have K1417:=K14X
  clear K14X DB
  have K14c0:=K1417.out.c0
  have K14c1:=K1417.out.c1
  have K14c2:=K1417.out.c2
  have K6c0:=K617.out.c0
  have K6c1:=K617.out.c1
  have K6c2:=K617.out.c2
  go_wp2_with fail
  refine (eqResult_any ⟨C,T,L.length,btF L⟩ ha hc pa pc _ (by show L.length≤1048576;omega) HH17.out.sl HP17.out.sl).mono ?_
  rintro e w18 ⟨rfl,hB⟩
  clear K14c0 K14c1 K14c2 K6c0 K6c1 K6c2
  have BZ:=hide (B17.out.trans (hB.mono B17.out.size))
  clear hB
  go_wp2
  go_ret
  exact ⟨rfl,BZ.out⟩
end Go.Proofs.YtfnbojfnelfnkaaGreatDoor.Vp
