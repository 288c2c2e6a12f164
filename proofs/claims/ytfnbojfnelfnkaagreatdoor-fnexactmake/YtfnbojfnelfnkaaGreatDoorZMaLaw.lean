import Derived.Test.YtfnbojfnelfnkaaGreatDoorZI
import Derived.Test.YtfnbojfnelfnkaaGreatDoorYQ
set_option maxRecDepth 100000
set_option maxHeartbeats 8000000
namespace Go.Proofs.YtfnbojfnelfnkaaGreatDoor.Vp
open Go.RowKit
theorem law_make (a0:Option Addr)(n0 c0:Nat)(f0:Nat→Source)(a1:Option Addr)(n1 c1:Nat)(f1:Nat→Target)(t:ByteArray)(w:World)(hn0:(n0:Int)≤9223372036854775807)(hn1:(n1:Int)≤9223372036854775807)
  (hv0:SlSource w a0 n0 f0) (hs0:∀ i,i<n0→(f0 i).name.size≤maxLen∧(f0 i).text.size≤maxLen) (hv1:SlTarget w a1 n1 f1) (hs1:∀ i,i<n1→SizedTarget (f1 i)) (ht:t.size≤maxLen) (hT:Tab w) (hT2:Tab2 w) (hPow:Pow w) :
  Calls Tryz.prog 4 #[.agg #[.slice a0 n0 c0,.slice a1 n1 c1],.string t] w fun e w'=>e=.returned (.bool true)∧Below w.heap.size w w':=by
 have HV0:=hide hv0
 have HV1:=hide hv1
 have HS0:=hide hs0
 have HS1:=hide hs1
 have HT:=hide hT
 have HT2:=hide hT2
 have HPOW:=hide hPow
 have htb:=hT2.1
 have ht2:(t.size:Int)≤9223372036854775807:=by unfold maxLen at ht;omega
 clear hv0 hv1 hs0 hs1 hT hT2 hPow ht
 obtain ⟨hpg,hlen,-⟩:=build_good ⟨n0,f0,n1,f1⟩ t
 obtain ⟨made,C,T,L,hC⟩:∃ made C T L,buildP ⟨n0,f0,n1,f1⟩ t=(made,⟨C,T,L⟩):=⟨_,_,_,_,rfl⟩
 have hl:L.length≤60:=by have:=build_chain ⟨n0,f0,n1,f1⟩ t;rw [hC] at this;exact this
 rw [hC] at hpg hlen
 obtain ⟨D,hD⟩:∃ D,D=makeD ⟨n0,f0,n1,f1⟩ made:=⟨_,rfl⟩
 obtain ⟨nD,hnD⟩:∃ nD,nD=D.length:=⟨_,rfl⟩
 have hnl:nD≤40201:=by rw [hnD,hD,make_len];exact hlen
 have HC:=hide hC
 have HD:=hide hD
 have HND:=hide hnD
 have HPG:=hide hpg
 clear hC hD hnD hpg hlen
 have B0:=hide ((Below.refl w.heap.size w).alloc (Nat.le_refl w.heap.size) (.cells #[.slice a0 n0 c0,.slice a1 n1 c1] 25))
 have KA0:=hide (two_box w (.slice a0 n0 c0) (.slice a1 n1 c1) 25)
 go_enter Tryz.func4,Tryz.ntmps4
 by_cases hbig:(1048576:Int)<t.size
 ·go_wp2
  go_ret
  exact ⟨rfl,B0.out⟩
 go_wp2_with fail
 generalize w.alloc (.cells #[.slice a0 n0 c0,.slice a1 n1 c1] 25)=W at B0 KA0 ⊢
 refine (szSpace_any a0 n0 c0 f0 a1 n1 c1 f1 1048576 _ (by omega) (by omega) hn0 hn1 (HV0.out.below B0.out lr) HS0.out (HV1.out.below B0.out lr) HS1.out).mono ?_
 rintro e w1 ⟨r,rfl,hr1,hr2,hr3,hB⟩
 have KA1:=hide (KA0.out.below hB)
 have B1:=hide (B0.out.trans (hB.mono B0.out.size))
 clear hB B0 KA0
 by_cases hr:r<0
 ·clear hr3
  go_wp2
  go_ret
  exact ⟨rfl,B1.out⟩
 obtain ⟨hm0,hm1,hF⟩:=hr3 (by omega)
 have HF:=hide hF
 have hp0:n0≤1048576:=by omega
 have hp1:n1≤1048576:=by omega
 have HDF:Hid (∀ x∈D,FitsDeed x):=by show ∀ x∈D,FitsDeed x;rw [HD.out];exact make_fits HPG.out HF.out
 clear hr3 hF hm0 hm1
 have KAc0:=KA1.out.c0
 have KAc1:=KA1.out.c1
 go_wp2_with fail
 refine (toSpace_any a0 n0 c0 f0 a1 n1 c1 f1 _ hp0 hp1 (HV0.out.below B1.out lr) (HV1.out.below B1.out lr) HF.out).mono ?_
 rintro e w2 ⟨s0,s1,rfl,hS0,hg0,hS1,hg1,hB⟩
 have S0:=hide hS0.sl
 have S1:=hide hS1.row.sl
 clear hS0 hS1 hg0 hg1
 clear KAc0 KAc1
 have KA2:=hide (KA1.out.below hB)
 have B2:=hide (B1.out.trans (hB.mono B1.out.size))
 clear KA1 B1
 clear hB
 go_wp2_with fail
 refine (specMake_any (S:=⟨n0,f0,n1,f1⟩) (a0:=some ⟨s0,0,none⟩) (c0:=n0) (a1:=some ⟨s1,0,none⟩) (c1:=n1) _ t S0.out S1.out hp0 hp1 HF.out (fun i hi=>(HS1.out i hi).2.2)).mono ?_
 intro e w3 hans
 rw [HC.out] at hans
 obtain ⟨pa,pc,pR,rv,rfl,hDr,hM,⟨qa,qc,rfl,hO⟩,hB⟩:=hans
 have eR:nD=pR.length:=by rw [HND.out,HD.out,← hM];simp
 rw [← HD.out] at hM
 rw [← eR] at hDr ⊢
 simp only at hO ⊢
 have HPX:=hide (dheld_new hDr)
 have QPX:=hide (rch_new hO)
 have MP:=hide hM
 have EP:=hide eR
 clear hDr hO hM eR
 have h23:w2.heap.size≤w3.heap.size:=hB.size
 have KA3:=hide (KA2.out.below hB)
 have B3:=hide (B2.out.trans (hB.mono B2.out.size))
 clear KA2 B2
 have HP3:=HPX
 clear HPX
 have QP3:=QPX
 clear QPX
 clear hB S0 S1
 have DB:=hide (((Below.refl w3.heap.size w3).alloc lr (.cells #[.slice pa nD pc] 43)).alloc (by simp) (.cells #[.int .i64 C,.string T,.slice qa L.length qc] 29))
 have PB:=pair_box w3 (.slice pa nD pc) (.int .i64 C) (.string T) (.slice qa L.length qc) 43 29
 have K6X:=hide PB.1
 have L6X:=hide PB.2
 clear PB
 have KA4:=hide (KA3.out.below DB.out)
 have HP4:=hide (HP3.out.below DB.out)
 have QP4:=hide (QP3.out.below DB.out)
 have B4:=hide (B3.out.trans (DB.out.mono B3.out.size))
 clear KA3 HP3 QP3 B3
 have K64:=K6X
 clear K6X
 have L64:=L6X
 clear L6X
 clear DB
 have KAc0:=KA4.out.c0
 have KAc1:=KA4.out.c1
 go_wp2_with fail
 generalize hw4:(w3.alloc (.cells #[.slice pa nD pc] 43)).alloc (.cells #[.int .i64 C,.string T,.slice qa L.length qc] 29)=w4 at KA4 HP4 QP4 K64 L64 B4 KAc0 KAc1 ⊢
 have hz4:w4.heap.size=w3.heap.size+2:=by rw [← hw4];simp
 clear hw4
 generalize w2.heap.size=bp at HP4 QP4 h23
 generalize w3.heap.size=b6 at K64 L64 HP4 QP4 hz4 h23 ⊢
 refine (toSpace_anyO a0 n0 c0 f0 a1 n1 c1 f1 _ hp0 hp1 (HV0.out.below B4.out lr) (HV1.out.below B4.out lr) HF.out).mono ?_
 rintro e w5 ⟨x0,x1,rfl,hX0,hx0,hX1,hx1,hB⟩
 have SCX:=hide (scells_copy (lo:=w4.heap.size) hX0 hX1 hx0 hx1 HF.out)
 have XSX:=hide hX0.row.sl
 have XTX:=hide hX1.row.sl
 have h45:w4.heap.size≤w5.heap.size:=hB.size
 have hwl:w.heap.size<w4.heap.size:=KA4.out.lt
 clear hX0 hX1 hx0 hx1
 clear KAc0 KAc1
 have KA5:=hide (KA4.out.below hB)
 have HP5:=hide (HP4.out.below hB)
 have QP5:=hide (QP4.out.below hB)
 have K65:=hide (K64.out.below hB)
 have L65:=hide (L64.out.below hB)
 have B5:=hide (B4.out.trans (hB.mono B4.out.size))
 clear KA4 HP4 QP4 K64 L64 B4
 have SC5:=SCX
 clear SCX
 have XS5:=XSX
 clear XSX
 have XT5:=XTX
 clear XTX
 clear hB
 have DB:=hide ((Below.refl w5.heap.size w5).alloc lr (.cells #[.slice (some ⟨x0,0,none⟩) n0 n0,.slice (some ⟨x1,0,none⟩) n1 n1] 34))
 have K8X:=hide (two_box w5 (.slice (some ⟨x0,0,none⟩) n0 n0) (.slice (some ⟨x1,0,none⟩) n1 n1) 34)
 have KA6:=hide (KA5.out.below DB.out)
 have HP6:=hide (HP5.out.below DB.out)
 have QP6:=hide (QP5.out.below DB.out)
 have K66:=hide (K65.out.below DB.out)
 have L66:=hide (L65.out.below DB.out)
 have SC6:=hide (SC5.out.below DB.out)
 have XS6:=hide (XS5.out.below DB.out lr)
 have XT6:=hide (XT5.out.below DB.out lr)
 have B6:=hide (B5.out.trans (DB.out.mono B5.out.size))
 clear KA5 HP5 QP5 K65 L65 SC5 XS5 XT5 B5
 have K86:=K8X
 clear K8X
 clear DB
 have K8c0:=K86.out.c0
 have K8c1:=K86.out.c1
 go_wp2_with fail
 generalize hw6:w5.alloc (.cells #[.slice (some ⟨x0,0,none⟩) n0 n0,.slice (some ⟨x1,0,none⟩) n1 n1] 34)=w6 at KA6 HP6 QP6 K66 L66 SC6 XS6 XT6 K86 B6 K8c0 K8c1 ⊢
 have hz6:w6.heap.size=w5.heap.size+1:=by rw [← hw6];simp
 clear hw6
 generalize w5.heap.size=hi at SC6 K86 K8c0 K8c1 h45 hz6 ⊢
 generalize w4.heap.size=lo at SC6 h45 hwl hz4
 refine (implMake_any (S:=⟨n0,f0,n1,f1⟩) (a0:=some ⟨x0,0,none⟩) (c0:=n0) (a1:=some ⟨x1,0,none⟩) (c1:=n1) _ t XS6.out XT6.out hp0 hp1 HF.out (HT.out.below B6.out HT.out.1) (HT2.out.below B6.out htb) (HPOW.out.below B6.out lr)).mono ?_
 intro e w7 hans
 rw [HC.out] at hans
 obtain ⟨ga,gc,gR,rv,rfl,hDr,hM,⟨ua,uc,rfl,hO⟩,hB⟩:=hans
 have eR:nD=gR.length:=by rw [HND.out,HD.out,← hM];simp
 rw [← HD.out] at hM
 rw [← eR] at hDr ⊢
 simp only at hO ⊢
 have HGX:=hide (dheld_new hDr)
 have QGX:=hide (rch_new hO)
 have MG:=hide hM
 have EG:=hide eR
 clear hDr hO hM eR
 have h67:w6.heap.size≤w7.heap.size:=hB.size
 clear K8c0 K8c1
 have KA7:=hide (KA6.out.below hB)
 have HP7:=hide (HP6.out.below hB)
 have QP7:=hide (QP6.out.below hB)
 have K67:=hide (K66.out.below hB)
 have L67:=hide (L66.out.below hB)
 have SC7:=hide (SC6.out.below hB)
 have XS7:=hide (XS6.out.below hB lr)
 have XT7:=hide (XT6.out.below hB lr)
 have K87:=hide (K86.out.below hB)
 have B7:=hide (B6.out.trans (hB.mono B6.out.size))
 clear KA6 HP6 QP6 K66 L66 SC6 XS6 XT6 K86 B6
 have HG7:=HGX
 clear HGX
 have QG7:=QGX
 clear QGX
 clear hB
 have DB:=hide (((Below.refl w7.heap.size w7).alloc lr (.cells #[.slice ga nD gc] 43)).alloc (by simp) (.cells #[.int .i64 C,.string T,.slice ua L.length uc] 29))
 have PB:=pair_box w7 (.slice ga nD gc) (.int .i64 C) (.string T) (.slice ua L.length uc) 43 29
 have K9X:=hide PB.1
 have L9X:=hide PB.2
 clear PB
 have KA8:=hide (KA7.out.below DB.out)
 have HP8:=hide (HP7.out.below DB.out)
 have QP8:=hide (QP7.out.below DB.out)
 have K68:=hide (K67.out.below DB.out)
 have L68:=hide (L67.out.below DB.out)
 have SC8:=hide (SC7.out.below DB.out)
 have XS8:=hide (XS7.out.below DB.out lr)
 have XT8:=hide (XT7.out.below DB.out lr)
 have K88:=hide (K87.out.below DB.out)
 have HG8:=hide (HG7.out.below DB.out)
 have QG8:=hide (QG7.out.below DB.out)
 have B8:=hide (B7.out.trans (DB.out.mono B7.out.size))
 clear KA7 HP7 QP7 K67 L67 SC7 XS7 XT7 K87 HG7 QG7 B7
 have K98:=K9X
 clear K9X
 have L98:=L9X
 clear L9X
 clear DB
 have K9c0:=K98.out.c0
 have L9c0:=L98.out.c0
 have L9c1:=L98.out.c1
 have L9c2:=L98.out.c2
 have K6c0:=K68.out.c0
 have L6c0:=L68.out.c0
 have L6c1:=L68.out.c1
 have L6c2:=L68.out.c2
 go_wp2_with fail
 generalize (w7.alloc (.cells #[.slice ga nD gc] 43)).alloc (.cells #[.int .i64 C,.string T,.slice ua L.length uc] 29)=w8 at KA8 HP8 QP8 K68 L68 SC8 XS8 XT8 K88 HG8 QG8 K98 L98 B8 K9c0 L9c0 L9c1 L9c2 K6c0 L6c0 L6c1 L6c2 ⊢
 generalize w7.heap.size=b9 at HG8 QG8 K98 L98 K9c0 L9c0 L9c1 L9c2 h67 ⊢
 generalize w6.heap.size=b2 at HG8 QG8 h67 hz6
 refine (eqAccount_any ga pa gc pc nD (dF D) _ (by omega) (HG8.out.deedsN EG.out MG.out) (HP8.out.deedsN EP.out MP.out) (by rw [HND.out];exact dF_fits HDF.out)).mono ?_
 rintro e w9 ⟨rfl,hB⟩
 clear K9c0 L9c0 L9c1 L9c2 K6c0 L6c0 L6c1 L6c2
 have KA9:=hide (KA8.out.below hB)
 have HP9:=hide (HP8.out.below hB)
 have QP9:=hide (QP8.out.below hB)
 have K69:=hide (K68.out.below hB)
 have L69:=hide (L68.out.below hB)
 have SC9:=hide (SC8.out.below hB)
 have XS9:=hide (XS8.out.below hB lr)
 have XT9:=hide (XT8.out.below hB lr)
 have K89:=hide (K88.out.below hB)
 have HG9:=hide (HG8.out.below hB)
 have QG9:=hide (QG8.out.below hB)
 have K99:=hide (K98.out.below hB)
 have L99:=hide (L98.out.below hB)
 have B9:=hide (B8.out.trans (hB.mono B8.out.size))
 clear KA8 HP8 QP8 K68 L68 SC8 XS8 XT8 K88 HG8 QG8 K98 L98 B8
 clear hB
 have L9c0:=L99.out.c0
 have L9c1:=L99.out.c1
 have L9c2:=L99.out.c2
 have L6c0:=L69.out.c0
 have L6c1:=L69.out.c1
 have L6c2:=L69.out.c2
 go_wp2_with fail
 refine (eqResult_any ⟨C,T,L.length,btF L⟩ ua uc qa qc _ (by show L.length≤1048576;omega) QG9.out.sl QP9.out.sl).mono ?_
 rintro e w10 ⟨rfl,hB⟩
 clear L9c0 L9c1 L9c2 L6c0 L6c1 L6c2
 have KA10:=hide (KA9.out.below hB)
 have HP10:=hide (HP9.out.below hB)
 have QP10:=hide (QP9.out.below hB)
 have K610:=hide (K69.out.below hB)
 have L610:=hide (L69.out.below hB)
 have SC10:=hide (SC9.out.below hB)
 have XS10:=hide (XS9.out.below hB lr)
 have XT10:=hide (XT9.out.below hB lr)
 have K810:=hide (K89.out.below hB)
 have HG10:=hide (HG9.out.below hB)
 have QG10:=hide (QG9.out.below hB)
 have K910:=hide (K99.out.below hB)
 have L910:=hide (L99.out.below hB)
 have B10:=hide (B9.out.trans (hB.mono B9.out.size))
 clear KA9 HP9 QP9 K69 L69 SC9 XS9 XT9 K89 HG9 QG9 K99 L99 B9
 clear hB
 have KAc0:=KA10.out.c0
 have KAc1:=KA10.out.c1
 have K8c0:=K810.out.c0
 have K8c1:=K810.out.c1
 go_wp2_with fail
 have k8l:=K810.out.lt
 go_region_with (first
  | (go_at_call 8;refine (toSpace_any a0 n0 c0 f0 a1 n1 c1 f1 _ hp0 hp1 ?_ ?_ HF.out).mono ?_;(first | exact HV0.out.below B10.out lr | exact HV0.out.below B10.out.drew lr);(first | exact HV1.out.below B10.out lr | exact HV1.out.below B10.out.drew lr);rintro e w11 ⟨i0,i1,rfl,hS0,hg0,hS1,hg1,hB7⟩;have T0:=hide hS0.sl;have T1:=hide hS1.row.sl;have B7:Hid (Below w10.heap.size w10 w11):=⟨hB7.os,hB7.tape,hB7.output,hB7.size,hB7.block⟩;have x70:=(B7.out.cell (p:=⟨hi,0,none⟩) k8l).trans K8c0;have x71:=(B7.out.cell (p:=⟨hi,1,none⟩) k8l).trans K8c1;have U0:=hide (XS10.out.below B7.out lr);have U1:=hide (XT10.out.below B7.out lr);clear hS0 hS1 hg0 hg1 hB7)
  | (go_at_call 11;refine (eqSpace_any (some ⟨x0,0,none⟩) (some ⟨i0,0,none⟩) n0 n0 n0 f0 (some ⟨x1,0,none⟩) (some ⟨i1,0,none⟩) n1 n1 n1 f1 _ hp0 hp1 U0.out T0.out U1.out T1.out HF.out).mono ?_;rintro e w12 ⟨rfl,hB8⟩))
 all_goals
  have E11:=hide (B7.out.trans (hB8.mono B7.out.size))
  clear x70 x71 U0 U1 T0 T1 hB8 B7 k8l
  clear KAc0 KAc1 K8c0 K8c1
  have KA11:=hide (KA10.out.below E11.out)
  have HP11:=hide (HP10.out.below E11.out)
  have QP11:=hide (QP10.out.below E11.out)
  have K611:=hide (K610.out.below E11.out)
  have L611:=hide (L610.out.below E11.out)
  have SC11:=hide (SC10.out.below E11.out)
  have XS11:=hide (XS10.out.below E11.out lr)
  have XT11:=hide (XT10.out.below E11.out lr)
  have K811:=hide (K810.out.below E11.out)
  have HG11:=hide (HG10.out.below E11.out)
  have QG11:=hide (QG10.out.below E11.out)
  have K911:=hide (K910.out.below E11.out)
  have L911:=hide (L910.out.below E11.out)
  have B11:=hide (B10.out.trans (E11.out.mono B10.out.size))
  clear KA10 HP10 QP10 K610 L610 SC10 XS10 XT10 K810 HG10 QG10 K910 L910 B10
  clear E11
  have K8c0:=K811.out.c0
  have K8c1:=K811.out.c1
  go_wp2_with fail
  refine (markSpace_any (fun k=>lo≤k∧k<hi) (some ⟨x0,0,none⟩) (some ⟨x1,0,none⟩) n0 n0 n1 n1 _ (by omega) (by omega) SC11.out).mono ?_
  rintro e w13 ⟨rk,rfl,_,hW⟩
  clear K8c0 K8c1
  have KA12:=hide (KA11.out.touch hW (by omega))
  have HP12:=hide (HP11.out.touch hW (fun k hk=>by omega))
  have QP12:=hide (QP11.out.touch hW (fun k h1 h2 _ hk=>by omega))
  have K612:=hide (K611.out.touch hW (by omega))
  have L612:=hide (L611.out.touch hW (by omega))
  have HG12:=hide (HG11.out.touch hW (fun k hk=>by omega))
  have QG12:=hide (QG11.out.touch hW (fun k h1 h2 _ hk=>by omega))
  have K912:=hide (K911.out.touch hW (by omega))
  have L912:=hide (L911.out.touch hW (by omega))
  have B12:=hide (B11.out.trans (hW.toBelow (fun k hk=>by omega) B11.out.size))
  clear KA11 HP11 QP11 K611 L611 SC11 XS11 XT11 K811 HG11 QG11 K911 L911 B11 hW
  have K9c0:=K912.out.c0
  have L9c0:=L912.out.c0
  have L9c1:=L912.out.c1
  have L9c2:=L912.out.c2
  have K6c0:=K612.out.c0
  have L6c0:=L612.out.c0
  have L6c1:=L612.out.c1
  have L6c2:=L612.out.c2
  go_wp2_with fail
  refine (eqAccount_any ga pa gc pc nD (dF D) _ (by omega) (HG12.out.deedsN EG.out MG.out) (HP12.out.deedsN EP.out MP.out) (by rw [HND.out];exact dF_fits HDF.out)).mono ?_
  rintro e w14 ⟨rfl,hB⟩
  clear K9c0 L9c0 L9c1 L9c2 K6c0 L6c0 L6c1 L6c2
  have KA13:=hide (KA12.out.below hB)
  have HP13:=hide (HP12.out.below hB)
  have QP13:=hide (QP12.out.below hB)
  have K613:=hide (K612.out.below hB)
  have L613:=hide (L612.out.below hB)
  have HG13:=hide (HG12.out.below hB)
  have QG13:=hide (QG12.out.below hB)
  have K913:=hide (K912.out.below hB)
  have L913:=hide (L912.out.below hB)
  have B13:=hide (B12.out.trans (hB.mono B12.out.size))
  clear KA12 HP12 QP12 K612 L612 HG12 QG12 K912 L912 B12
  clear hB
  have L9c0:=L913.out.c0
  have L9c1:=L913.out.c1
  have L9c2:=L913.out.c2
  have L6c0:=L613.out.c0
  have L6c1:=L613.out.c1
  have L6c2:=L613.out.c2
  go_wp2_with fail
  refine (eqResult_any ⟨C,T,L.length,btF L⟩ ua uc qa qc _ (by show L.length≤1048576;omega) QG13.out.sl QP13.out.sl).mono ?_
  rintro e w15 ⟨rfl,hB⟩
  clear L9c0 L9c1 L9c2 L6c0 L6c1 L6c2
  have KA14:=hide (KA13.out.below hB)
  have HP14:=hide (HP13.out.below hB)
  have QP14:=hide (QP13.out.below hB)
  have K614:=hide (K613.out.below hB)
  have L614:=hide (L613.out.below hB)
  have HG14:=hide (HG13.out.below hB)
  have QG14:=hide (QG13.out.below hB)
  have K914:=hide (K913.out.below hB)
  have L914:=hide (L913.out.below hB)
  have B14:=hide (B13.out.trans (hB.mono B13.out.size))
  clear KA13 HP13 QP13 K613 L613 HG13 QG13 K913 L913 B13
  clear hB
  have K9c0:=K914.out.c0
  go_wp2_with fail
  refine (mark_dheldN EG.out MG.out HG14.out HDF.out hnl).mono ?_
  rintro e w16 ⟨qm,rfl,hqm1,hqm2,hW,hMk⟩
  have MK:=hide hMk
  clear hMk
  have QT:=hide QG14.out
  clear K9c0
  have KA15:=hide (KA14.out.touch hW (by rintro ⟨h1,h2,h3⟩;omega))
  have HP15:=hide (HP14.out.touch hW (by rintro k ⟨h1,h2,h3⟩;omega))
  have QP15:=hide (QP14.out.touch hW (by rintro k h1 h2 _ ⟨h3,h4,h5⟩;omega))
  have K615:=hide (K614.out.touch hW (by rintro ⟨h1,h2,h3⟩;omega))
  have L615:=hide (L614.out.touch hW (by rintro ⟨h1,h2,h3⟩;omega))
  have QG15:=hide (QG14.out.touch hW (by rintro k h1 h2 h3 ⟨h4,h5,h6⟩;exact ns_not h6 h3 (by decide) (by decide) (by decide)))
  have K915:=hide (K914.out.touch hW (by rintro ⟨h1,h2,h3⟩;omega))
  have L915:=hide (L914.out.touch hW (by rintro ⟨h1,h2,h3⟩;omega))
  have B15:=hide (B14.out.trans (hW.toBelow (by rintro k ⟨h1,h2,h3⟩;omega) B14.out.size))
  clear KA14 HP14 QP14 K614 L614 HG14 QG14 K914 L914 B14 hW
  have L9c0:=L915.out.c0
  have L9c1:=L915.out.c1
  have L9c2:=L915.out.c2
  go_wp2_with fail
  refine (markResult_k C T ua uc b2 b9 qm L _ hl hqm1 hqm2 QG15.out).mono ?_
  rintro e w17 ⟨rfl,hRM,hW⟩
  have MK2:=hide (MK.out _ w17 (fun x hx hn=>ns_not hn (cu_ty QT.out.own x hx) (by decide) (by decide) (by decide)) hW)
  have RM:=hide hRM
  clear hRM MK
  have QU:=hide QG15.out.u
  clear L9c0 L9c1 L9c2
  have KA16:=hide (KA15.out.touch hW (fun h=>by have:=QU.out _ h;omega))
  have HP16:=hide (HP15.out.touch hW (fun k h=>by have:=QU.out _ h;omega))
  have QP16:=hide (QP15.out.touch hW (fun k h1 h2 _ h=>by have:=QU.out _ h;omega))
  have K616:=hide (K615.out.touch hW (fun h=>by have:=QU.out _ h;omega))
  have L616:=hide (L615.out.touch hW (fun h=>by have:=QU.out _ h;omega))
  have K916:=hide (K915.out.touch hW (fun h=>by have:=QU.out _ h;omega))
  have L916:=hide (L915.out.touch hW (fun h=>by have:=QU.out _ h;omega))
  have B16:=hide (B15.out.trans (hW.toBelow (fun k h=>by have:=QU.out _ h;omega) B15.out.size))
  clear KA15 HP15 QP15 K615 L615 QG15 K915 L915 B15 hW
  clear QU QT
  have K9c0:=K916.out.c0
  go_wp2_with fail
  refine (held_drowN EG.out MK2.out hnl).mono ?_
  rintro e w18 ⟨rfl,hB⟩
  clear MK2
  have RM2:=hide (RM.out.below hB)
  clear RM
  clear K9c0
  have KA17:=hide (KA16.out.below hB)
  have HP17:=hide (HP16.out.below hB)
  have QP17:=hide (QP16.out.below hB)
  have K617:=hide (K616.out.below hB)
  have L617:=hide (L616.out.below hB)
  have K917:=hide (K916.out.below hB)
  have L917:=hide (L916.out.below hB)
  have B17:=hide (B16.out.trans (hB.mono B16.out.size))
  clear KA16 HP16 QP16 K616 L616 K916 L916 B16
  clear hB
  have hq1:¬ ((qm:Int)<0):=by omega
  have L9c0:=L917.out.c0
  have L9c1:=L917.out.c1
  have L9c2:=L917.out.c2
  go_wp2_with fail
  refine (heldResult_k C T ua L.length uc qm _ hl hqm1 hqm2 RM2.out).mono ?_
  rintro e w19 ⟨rfl,hB⟩
  clear RM2
  clear L9c0 L9c1 L9c2
  have KA18:=hide (KA17.out.below hB)
  have HP18:=hide (HP17.out.below hB)
  have QP18:=hide (QP17.out.below hB)
  have K618:=hide (K617.out.below hB)
  have L618:=hide (L617.out.below hB)
  have K918:=hide (K917.out.below hB)
  have L918:=hide (L917.out.below hB)
  have B18:=hide (B17.out.trans (hB.mono B17.out.size))
  clear KA17 HP17 QP17 K617 L617 K917 L917 B17
  clear hB
  have KAc0:=KA18.out.c0
  have KAc1:=KA18.out.c1
  have hq2:¬ (((qm+L.length:Nat):Int)<0):=by omega
  go_wp2_with fail
  refine (toSpace_any a0 n0 c0 f0 a1 n1 c1 f1 _ hp0 hp1 (HV0.out.below B18.out lr) (HV1.out.below B18.out lr) HF.out).mono ?_
  rintro e w20 ⟨z0,z1,rfl,hS0,hg0,hS1,hg1,hB⟩
  have S0:=hide hS0.sl
  have S1:=hide hS1.row.sl
  clear hS0 hS1 hg0 hg1
  clear KAc0 KAc1
  have KA19:=hide (KA18.out.below hB)
  have HP19:=hide (HP18.out.below hB)
  have QP19:=hide (QP18.out.below hB)
  have K619:=hide (K618.out.below hB)
  have L619:=hide (L618.out.below hB)
  have K919:=hide (K918.out.below hB)
  have L919:=hide (L918.out.below hB)
  have B19:=hide (B18.out.trans (hB.mono B18.out.size))
  clear KA18 HP18 QP18 K618 L618 K918 L918 B18
  clear hB
  go_wp2_with fail
  refine (implMake_any (S:=⟨n0,f0,n1,f1⟩) (a0:=some ⟨z0,0,none⟩) (c0:=n0) (a1:=some ⟨z1,0,none⟩) (c1:=n1) _ t S0.out S1.out hp0 hp1 HF.out (HT.out.below B19.out HT.out.1) (HT2.out.below B19.out htb) (HPOW.out.below B19.out lr)).mono ?_
  intro e w21 hans
  rw [HC.out] at hans
  obtain ⟨ha,hc,hR,rv,rfl,hDr,hM,⟨ka,kc,rfl,hO⟩,hB⟩:=hans
  have eR:nD=hR.length:=by rw [HND.out,HD.out,← hM];simp
  rw [← HD.out] at hM
  rw [← eR] at hDr ⊢
  simp only at hO ⊢
  have HHX:=hide (dheld_new hDr)
  have QHX:=hide (rch_new hO)
  have MH:=hide hM
  have EH:=hide eR
  clear hDr hO hM eR
  have KA20:=hide (KA19.out.below hB)
  have HP20:=hide (HP19.out.below hB)
  have QP20:=hide (QP19.out.below hB)
  have K620:=hide (K619.out.below hB)
  have L620:=hide (L619.out.below hB)
  have K920:=hide (K919.out.below hB)
  have L920:=hide (L919.out.below hB)
  have B20:=hide (B19.out.trans (hB.mono B19.out.size))
  clear KA19 HP19 QP19 K619 L619 K919 L919 B19
  have HH20:=HHX
  clear HHX
  have QH20:=QHX
  clear QHX
  clear hB
  have DB:=hide (((Below.refl w21.heap.size w21).alloc lr (.cells #[.slice ha nD hc] 43)).alloc (by simp) (.cells #[.int .i64 C,.string T,.slice ka L.length kc] 29))
  have PB:=pair_box w21 (.slice ha nD hc) (.int .i64 C) (.string T) (.slice ka L.length kc) 43 29
  have K14X:=hide PB.1
  have L14X:=hide PB.2
  clear PB
  have KA21:=hide (KA20.out.below DB.out)
  have HP21:=hide (HP20.out.below DB.out)
  have QP21:=hide (QP20.out.below DB.out)
  have K621:=hide (K620.out.below DB.out)
  have L621:=hide (L620.out.below DB.out)
  have K921:=hide (K920.out.below DB.out)
  have L921:=hide (L920.out.below DB.out)
  have HH21:=hide (HH20.out.below DB.out)
  have QH21:=hide (QH20.out.below DB.out)
  have B21:=hide (B20.out.trans (DB.out.mono B20.out.size))
  clear KA20 HP20 QP20 K620 L620 K920 L920 HH20 QH20 B20
  have K1421:=K14X
  clear K14X
  have L1421:=L14X
  clear L14X
  clear DB
  have K14c0:=K1421.out.c0
  have L14c0:=L1421.out.c0
  have L14c1:=L1421.out.c1
  have L14c2:=L1421.out.c2
  have K6c0:=K621.out.c0
  have L6c0:=L621.out.c0
  have L6c1:=L621.out.c1
  have L6c2:=L621.out.c2
  go_wp2_with fail
  refine (eqAccount_any ha pa hc pc nD (dF D) _ (by omega) (HH21.out.deedsN EH.out MH.out) (HP21.out.deedsN EP.out MP.out) (by rw [HND.out];exact dF_fits HDF.out)).mono ?_
  rintro e w22 ⟨rfl,hB⟩
  clear K14c0 L14c0 L14c1 L14c2 K6c0 L6c0 L6c1 L6c2
  have KA22:=hide (KA21.out.below hB)
  have HP22:=hide (HP21.out.below hB)
  have QP22:=hide (QP21.out.below hB)
  have K622:=hide (K621.out.below hB)
  have L622:=hide (L621.out.below hB)
  have K922:=hide (K921.out.below hB)
  have L922:=hide (L921.out.below hB)
  have HH22:=hide (HH21.out.below hB)
  have QH22:=hide (QH21.out.below hB)
  have K1422:=hide (K1421.out.below hB)
  have L1422:=hide (L1421.out.below hB)
  have B22:=hide (B21.out.trans (hB.mono B21.out.size))
  clear KA21 HP21 QP21 K621 L621 K921 L921 HH21 QH21 K1421 L1421 B21
  clear hB
  have L14c0:=L1422.out.c0
  have L14c1:=L1422.out.c1
  have L14c2:=L1422.out.c2
  have L6c0:=L622.out.c0
  have L6c1:=L622.out.c1
  have L6c2:=L622.out.c2
  go_wp2_with fail
  refine (eqResult_any ⟨C,T,L.length,btF L⟩ ka kc qa qc _ (by show L.length≤1048576;omega) QH22.out.sl QP22.out.sl).mono ?_
  rintro e w23 ⟨rfl,hB⟩
  clear L14c0 L14c1 L14c2 L6c0 L6c1 L6c2
  have BZ:=hide (B22.out.trans (hB.mono B22.out.size))
  clear hB
  go_wp2
  go_ret
  exact ⟨rfl,BZ.out⟩
end Go.Proofs.YtfnbojfnelfnkaaGreatDoor.Vp
