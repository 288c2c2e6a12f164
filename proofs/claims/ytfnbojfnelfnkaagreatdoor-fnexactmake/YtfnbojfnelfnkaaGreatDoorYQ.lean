import Derived.Test.YtfnbojfnelfnkaaGreatDoorYP
import Derived.Test.YtfnbojfnelfnkaaGreatDoorYN
import Derived.Test.YtfnbojfnelfnkaaGreatDoorZO
import Derived.Test.YtfnbojfnelfnkaaGreatDoorZF
set_option maxRecDepth 100000
set_option maxHeartbeats 4000000
namespace Go.Proofs.YtfnbojfnelfnkaaGreatDoor.Vp
open Go.RowKit Go.Proofs.YtfnbojfnelfnkaaGreatDoor.Ca
def MakeAt (w:World)(S:Spc)(b:List Ent × ResL)(e:Ending)(w':World):Prop:=∃ a c R rv,e=.returned (.tuple #[.agg #[.slice a R.length c],rv])∧DRow w' w.heap.size (.slice a R.length c) R∧R.map (·.1)=makeD S b.1∧ResAt w w' b.2 rv∧Below w.heap.size w w'
section
variable {S:Spc}{a0 a1:Option Addr}{c0 c1:Nat}
theorem specMake_bad (w:World)(nm:ByteArray)(hv0:SlSource w a0 S.n0 S.f0)(hv1:SlTarget w a1 S.n1 S.f1)(hn0:S.n0≤1048576)(hn1:S.n1≤1048576)(hfit:∀ i,i<S.n1→FitsTarget (S.f1 i))(hs:∀ i,i<S.n1→∀ j,j<(S.f1 i).actN→((S.f1 i).act j).s.size≤maxLen)(hbad:¬ (checkC S.n0 S.f0 S.n1 S.f1=0∧nameOk nm=true)) :
  Calls Tryz.prog 15 #[.agg #[.slice a0 S.n0 c0,.slice a1 S.n1 c1],.string nm] w fun e w'=>MakeAt w S ([],⟨9,⟨#[]⟩,[]⟩) e w':=by
 have A0:=hide ((((Below.refl w.heap.size w).alloc lr (.cells #[.slice a0 S.n0 c0,.slice a1 S.n1 c1] 34)).alloc (by simp) (.cells #[.slice none 0 0] 43)).alloc (by simp<;>omega) (.cells #[.int .i64 0,.string ⟨#[]⟩,.slice none 0 0] 29))
 have HC:=hide (specCheck_any a0 S.n0 c0 S.f0 a1 S.n1 c1 S.f1 (((w.alloc (.cells #[.slice a0 S.n0 c0,.slice a1 S.n1 c1] 34)).alloc (.cells #[.slice none 0 0] 43)).alloc (.cells #[.int .i64 0,.string ⟨#[]⟩,.slice none 0 0] 29)) (by omega) (by omega) (hv0.below A0.out lr) (hv1.below A0.out lr) hfit hs)
 have kA:Hid ((((w.alloc (.cells #[.slice a0 S.n0 c0,.slice a1 S.n1 c1] 34)).alloc (.cells #[.slice none 0 0] 43)).alloc (.cells #[.int .i64 0,.string ⟨#[]⟩,.slice none 0 0] 29)).heap[w.heap.size+1]?=some (.cells #[.slice none 0 0] 43 (0,0))):=by
  have h2:=heap_alloc_new (w.alloc (.cells #[.slice a0 S.n0 c0,.slice a1 S.n1 c1] 34)) (.cells #[.slice none 0 0] 43)
  rw [show (w.alloc (.cells #[.slice a0 S.n0 c0,.slice a1 S.n1 c1] 34)).heap.size=w.heap.size+1 by simp] at h2
  exact (((Below.refl (w.heap.size+2) _).alloc (by simp) _).block (w.heap.size+1) (by omega)).trans h2
 have kR:Hid ((((w.alloc (.cells #[.slice a0 S.n0 c0,.slice a1 S.n1 c1] 34)).alloc (.cells #[.slice none 0 0] 43)).alloc (.cells #[.int .i64 0,.string ⟨#[]⟩,.slice none 0 0] 29)).heap[w.heap.size+1+1]?=some (.cells #[.int .i64 0,.string ⟨#[]⟩,.slice none 0 0] 29 (0,0))):=by
  have h2:=heap_alloc_new ((w.alloc (.cells #[.slice a0 S.n0 c0,.slice a1 S.n1 c1] 34)).alloc (.cells #[.slice none 0 0] 43)) (.cells #[.int .i64 0,.string ⟨#[]⟩,.slice none 0 0] 29)
  rw [show ((w.alloc (.cells #[.slice a0 S.n0 c0,.slice a1 S.n1 c1] 34)).alloc (.cells #[.slice none 0 0] 43)).heap.size=w.heap.size+1+1 by simp] at h2
  exact h2
 obtain ⟨ck,hck⟩:∃ ck,ck=checkC S.n0 S.f0 S.n1 S.f1:=⟨_,rfl⟩
 rw [← hck] at HC hbad
 have HBD:=hide hbad
 clear hv0 hv1 hfit hs hck hbad hn0 hn1
 by_cases hc:ck=0
 ·have hnk:Hid (nameOk nm=false):=by
   cases h:nameOk nm with
   | false=>rfl
   | true=>exact absurd ⟨hc,h⟩ HBD.out
  subst hc
  go_enter Tryz.func15,Tryz.ntmps15
  go_wp2_with fail
  generalize ((w.alloc (.cells #[.slice a0 S.n0 c0,.slice a1 S.n1 c1] 34)).alloc (.cells #[.slice none 0 0] 43)).alloc (.cells #[.int .i64 0,.string ⟨#[]⟩,.slice none 0 0] 29)=W0 at A0 HC kA kR ⊢
  refine HC.out.mono ?_
  clear HC
  rintro e w1 ⟨rfl,hB⟩
  have B1:=hide (A0.out.trans (hB.mono A0.out.size))
  have kA1:=hide ((hB.block _ (heap_lt kA.out)).trans kA.out)
  have kR1:=hide ((hB.block _ (heap_lt kR.out)).trans kR.out)
  clear hB
  go_wp2_with fail
  refine (l1NameOk_any nm w1).mono ?_
  rintro e w2 ⟨he,hB⟩
  rw [hnk.out] at he
  subst he
  have B2:=hide (B1.out.trans (hB.mono B1.out.size))
  have kA2:=(hB.block _ (heap_lt kA1.out)).trans kA1.out
  obtain ⟨rl,r0,r1,r2,rf⟩:=three_fact ((hB.block _ (heap_lt kR1.out)).trans kR1.out)
  have rf0:=rf 0
  have rf1:=rf 1
  have rf2:=rf 2
  have p0:w2.cell? ⟨w.heap.size+1,0,none⟩=some (.slice none 0 0):=by simp [World.cell?,kA2]
  have pf0:w2.frozen? ⟨w.heap.size+1,0,none⟩=false:=by simp [World.frozen?,kA2]
  have pl:=heap_lt kA2
  clear rf hB kA2
  go_wp2_with fail
  refine bodyPost_ret (v:=.tuple #[.agg #[.slice none 0 0],.agg #[.int .i64 9,.string ⟨#[]⟩,.slice none 0 0]]) (by simp [results,Tryz.results15,go_sem,p0,r0,r1,r2]) rfl ⟨none,0,[],_,rfl,dRow_nil _ _,rfl,res_plain _ _ _ _,?_⟩
  exact (((B2.out.setCell (p:=⟨w.heap.size+1,0,none⟩) (Nat.le_succ _) _).setCell (p:=⟨w.heap.size+1+1,0,none⟩) (by show w.heap.size≤w.heap.size+1+1;omega) _).setCell (p:=⟨w.heap.size+1+1,1,none⟩) (by show w.heap.size≤w.heap.size+1+1;omega) _).setCell (p:=⟨w.heap.size+1+1,2,none⟩) (by show w.heap.size≤w.heap.size+1+1;omega) _
 ·go_enter Tryz.func15,Tryz.ntmps15
  go_wp2_with fail
  generalize ((w.alloc (.cells #[.slice a0 S.n0 c0,.slice a1 S.n1 c1] 34)).alloc (.cells #[.slice none 0 0] 43)).alloc (.cells #[.int .i64 0,.string ⟨#[]⟩,.slice none 0 0] 29)=W0 at A0 HC kA kR ⊢
  refine HC.out.mono ?_
  clear HC
  rintro e w1 ⟨rfl,hB⟩
  have B2:=hide (A0.out.trans (hB.mono A0.out.size))
  have kA2:=(hB.block _ (heap_lt kA.out)).trans kA.out
  obtain ⟨rl,r0,r1,r2,rf⟩:=three_fact ((hB.block _ (heap_lt kR.out)).trans kR.out)
  have rf0:=rf 0
  have rf1:=rf 1
  have rf2:=rf 2
  have p0:w1.cell? ⟨w.heap.size+1,0,none⟩=some (.slice none 0 0):=by simp [World.cell?,kA2]
  have pf0:w1.frozen? ⟨w.heap.size+1,0,none⟩=false:=by simp [World.frozen?,kA2]
  have pl:=heap_lt kA2
  clear rf hB kA2
  go_wp2_with fail
  refine bodyPost_ret (v:=.tuple #[.agg #[.slice none 0 0],.agg #[.int .i64 9,.string ⟨#[]⟩,.slice none 0 0]]) (by simp [results,Tryz.results15,go_sem,p0,r0,r1,r2]) rfl ⟨none,0,[],_,rfl,dRow_nil _ _,rfl,res_plain _ _ _ _,?_⟩
  exact (((B2.out.setCell (p:=⟨w.heap.size+1,0,none⟩) (Nat.le_succ _) _).setCell (p:=⟨w.heap.size+1+1,0,none⟩) (by show w.heap.size≤w.heap.size+1+1;omega) _).setCell (p:=⟨w.heap.size+1+1,1,none⟩) (by show w.heap.size≤w.heap.size+1+1;omega) _).setCell (p:=⟨w.heap.size+1+1,2,none⟩) (by show w.heap.size≤w.heap.size+1+1;omega) _
theorem specMake_ok (w:World)(nm:ByteArray)(hv0:SlSource w a0 S.n0 S.f0)(hv1:SlTarget w a1 S.n1 S.f1)(hn0:S.n0≤1048576)(hn1:S.n1≤1048576)(hfit:∀ i,i<S.n1→FitsTarget (S.f1 i))(hs:∀ i,i<S.n1→∀ j,j<(S.f1 i).actN→((S.f1 i).act j).s.size≤maxLen)(h1:checkC S.n0 S.f0 S.n1 S.f1=0)(h2:nameOk nm=true) :
  Calls Tryz.prog 15 #[.agg #[.slice a0 S.n0 c0,.slice a1 S.n1 c1],.string nm] w fun e w'=>MakeAt w S (buildP S nm) e w':=by
 have A0:=hide ((((Below.refl w.heap.size w).alloc lr (.cells #[.slice a0 S.n0 c0,.slice a1 S.n1 c1] 34)).alloc (by simp) (.cells #[.slice none 0 0] 43)).alloc (by simp<;>omega) (.cells #[.int .i64 0,.string ⟨#[]⟩,.slice none 0 0] 29))
 have HC:=hide (specCheck_any a0 S.n0 c0 S.f0 a1 S.n1 c1 S.f1 (((w.alloc (.cells #[.slice a0 S.n0 c0,.slice a1 S.n1 c1] 34)).alloc (.cells #[.slice none 0 0] 43)).alloc (.cells #[.int .i64 0,.string ⟨#[]⟩,.slice none 0 0] 29)) (by omega) (by omega) (hv0.below A0.out lr) (hv1.below A0.out lr) hfit hs)
 have kA:Hid ((((w.alloc (.cells #[.slice a0 S.n0 c0,.slice a1 S.n1 c1] 34)).alloc (.cells #[.slice none 0 0] 43)).alloc (.cells #[.int .i64 0,.string ⟨#[]⟩,.slice none 0 0] 29)).heap[w.heap.size+1]?=some (.cells #[.slice none 0 0] 43 (0,0))):=by
  have h2:=heap_alloc_new (w.alloc (.cells #[.slice a0 S.n0 c0,.slice a1 S.n1 c1] 34)) (.cells #[.slice none 0 0] 43)
  rw [show (w.alloc (.cells #[.slice a0 S.n0 c0,.slice a1 S.n1 c1] 34)).heap.size=w.heap.size+1 by simp] at h2
  exact (((Below.refl (w.heap.size+2) _).alloc (by simp) _).block (w.heap.size+1) (by omega)).trans h2
 have kR:Hid ((((w.alloc (.cells #[.slice a0 S.n0 c0,.slice a1 S.n1 c1] 34)).alloc (.cells #[.slice none 0 0] 43)).alloc (.cells #[.int .i64 0,.string ⟨#[]⟩,.slice none 0 0] 29)).heap[w.heap.size+1+1]?=some (.cells #[.int .i64 0,.string ⟨#[]⟩,.slice none 0 0] 29 (0,0))):=by
  have h2:=heap_alloc_new ((w.alloc (.cells #[.slice a0 S.n0 c0,.slice a1 S.n1 c1] 34)).alloc (.cells #[.slice none 0 0] 43)) (.cells #[.int .i64 0,.string ⟨#[]⟩,.slice none 0 0] 29)
  rw [show ((w.alloc (.cells #[.slice a0 S.n0 c0,.slice a1 S.n1 c1] 34)).alloc (.cells #[.slice none 0 0] 43)).heap.size=w.heap.size+1+1 by simp] at h2
  exact h2
 have kS:Hid ((((w.alloc (.cells #[.slice a0 S.n0 c0,.slice a1 S.n1 c1] 34)).alloc (.cells #[.slice none 0 0] 43)).alloc (.cells #[.int .i64 0,.string ⟨#[]⟩,.slice none 0 0] 29)).heap[w.heap.size]?=some (.cells #[.slice a0 S.n0 c0,.slice a1 S.n1 c1] 34 (0,0))) :=
  ((((Below.refl (w.heap.size+1) _).alloc (by simp) _).alloc (by simp<;>omega) _).block w.heap.size (by omega)).trans (heap_alloc_new w _)
 have V0:=hide hv0
 have V1:=hide hv1
 have HFT:=hide hfit
 have HOK:=hide (SpcOk.of h1)
 have H1:=hide h1
 have H2:=hide h2
 rw [h1] at HC
 obtain ⟨bb,hbb⟩:∃ bb,bb=buildP S nm:=⟨_,rfl⟩
 obtain ⟨hpg,hlen,-⟩:=build_good S nm
 rw [← hbb] at hpg hlen ⊢
 unfold buildP at hbb
 rw [if_pos ⟨h1,h2⟩] at hbb
 have HBB:=hide hbb
 have HPG:=hide hpg
 have HLEN:=hide hlen
 clear hv0 hv1 hfit hs hn0 hn1 h1 h2 hbb hpg hlen
 go_enter Tryz.func15,Tryz.ntmps15
 go_wp2_with fail
 generalize ((w.alloc (.cells #[.slice a0 S.n0 c0,.slice a1 S.n1 c1] 34)).alloc (.cells #[.slice none 0 0] 43)).alloc (.cells #[.int .i64 0,.string ⟨#[]⟩,.slice none 0 0] 29)=W0 at A0 HC kA kR kS ⊢
 refine HC.out.mono ?_
 clear HC
 rintro e w1 ⟨rfl,hB⟩
 have B1:=hide (A0.out.trans (hB.mono A0.out.size))
 have kA1:=hide ((hB.block _ (heap_lt kA.out)).trans kA.out)
 have kR1:=hide ((hB.block _ (heap_lt kR.out)).trans kR.out)
 have kS1:=hide ((hB.block _ (heap_lt kS.out)).trans kS.out)
 clear hB
 go_wp2_with fail
 refine (l1NameOk_any nm w1).mono ?_
 rintro e w2 ⟨he,hB⟩
 rw [H2.out] at he
 subst he
 have B2:=hide (B1.out.trans (hB.mono B1.out.size))
 have kA2:=hide ((hB.block _ (heap_lt kA1.out)).trans kA1.out)
 have kR2:=hide ((hB.block _ (heap_lt kR1.out)).trans kR1.out)
 have kS2:=hide ((hB.block _ (heap_lt kS1.out)).trans kS1.out)
 have hsl:w.heap.size<w2.heap.size:=heap_lt kS2.out
 have q0:w2.cell? ⟨w.heap.size,0,none⟩=some (.slice a0 S.n0 c0):=by simp [World.cell?,kS2.out]
 have q1:w2.cell? ⟨w.heap.size,1,none⟩=some (.slice a1 S.n1 c1):=by simp [World.cell?,kS2.out]
 clear hB
 go_wp2_with fail
 refine (l2Clean_any w2 ⟨V0.out.below B2.out lr,V1.out.below B2.out lr,HOK.out⟩ nm H2.out).mono ?_
 rintro e w3 ⟨hb,rfl,hcl,hB⟩
 have B3:=hide (B2.out.trans (hB.mono B2.out.size))
 have kA3:=hide ((hB.block _ (heap_lt kA2.out)).trans kA2.out)
 have kR3:=hide ((hB.block _ (heap_lt kR2.out)).trans kR2.out)
 clear q0 q1 hB
 have hw3:w.heap.size≤w3.heap.size:=B3.out.size
 have hchain:=liesP_chain S 60 [] [] nm
 rcases hl:liesP S 60 [] [] nm with ⟨made',x⟩ | c | d
 ·rw [hl] at hcl
  obtain ⟨r,hr⟩:∃ r,r=resE x:=⟨_,rfl⟩
  have e:bb=(made',r):=by rw [HBB.out,hl,hr]
  subst e
  obtain ⟨L,md,or,st,hbx,hrm,hro,hsn,hrel⟩:=hcl
  obtain ⟨hbl,b0,b1,b2,b3,-,b5,b6,b7,b8,-⟩:=hbx.facts
  have HSA:Hid (ShAt w2.heap.size w3 hb (.slice a0 S.n0 c0) (.slice a1 S.n1 c1) md or L made'):=⟨hbl,b0,b1,b2,b3,hrm,hro,hsn⟩
  have HREL:=hide hrel
  have hrch:r.chain=[]:=by rw [hr];unfold resE;split<;>rfl
  rw [← hr] at b5 b6
  have HRC:=hide hrch
  have SQ:Hid (∀ V:World,V.heap[hb]?=w3.heap[hb]?→V.cell? ⟨hb,5,none⟩=some (.int .i64 r.code)∧V.cell? ⟨hb,6,none⟩=some (.string r.text)∧V.cell? ⟨hb,7,none⟩=some (.slice none 0 0)):=fun V h=>⟨(World.cell?_of_block (a:=⟨hb,5,none⟩) h).trans b5,(World.cell?_of_block (a:=⟨hb,6,none⟩) h).trans b6,(World.cell?_of_block (a:=⟨hb,7,none⟩) h).trans b7⟩
  have hne1:hb≠w.heap.size+1:=fun e=>by have:=two_types hbx (e ▸ kA3.out);exact absurd this (by decide)
  have hne2:hb≠w.heap.size+1+1:=fun e=>by have:=two_types hbx (e ▸ kR3.out);exact absurd this (by decide)
  have CM:Hid (Calls Tryz.prog 47 #[.pointer (some ⟨hb,0,none⟩)] w3.drew fun e w'=>∃ a c R,e=.returned (.agg #[.slice a R.length c])∧DRow w' w3.heap.size (.slice a R.length c) R∧R.map (·.1)=makeD S made'∧Below w3.heap.size w3 w'):=by
   have hd:Below w3.heap.size w3 w3.drew:=(Below.refl _ _).drew
   have h:=l3Made_any w2.heap.size w3.drew hb md or L made' (HSA.out.below hd lr) HREL.out HPG.out HLEN.out (V0.out.below (B3.out.trans (hd.mono hw3)) lr) (V1.out.below (B3.out.trans (hd.mono hw3)) lr) HOK.out HFT.out
   exact h.mono fun e w' ⟨a,c,R,h1,h2,h3,h4⟩=>⟨a,c,R,h1,h2,h3,h4.os,h4.tape,h4.output,h4.size,h4.block⟩
  clear hr hrch hrel hbx hrm hro hsn b0 b1 b2 b3 hl hchain
  go_wp2_with fail
  refine wp_region_held_drew (S:=fun V=>V.cell? ⟨hb,5,none⟩=some (.int .i64 r.code)∧V.cell? ⟨hb,6,none⟩=some (.string r.text)∧V.cell? ⟨hb,7,none⟩=some (.slice none 0 0)) (by as_aux_lemma=>kernel_rfl) (SQ.out _ rfl) ?_
  intro hS
  have HS:=hide hS
  clear hS b5 b6 b7 b8
  refine anyS_nx 0 (v:=?_) rfl rfl (by as_aux_lemma=>kernel_rfl) (fun _ _ _ h=>h) rfl ?_ HS.out ?_
  rotate_left
  ·(intro wz hSw;obtain ⟨s0,s1,s2⟩:=hSw;go_simp)
   (try with_reducible rfl)
  (try simp only [Act.put,List.setIfInBounds_toArray,List.set_cons_zero,List.set_cons_succ])
  iterate 4
   refine anyS_nx 2 (v:=?_) rfl rfl (by as_aux_lemma=>kernel_rfl) (fun _ _ _ h=>h) rfl ?_ HS.out ?_
   rotate_left
   ·(intro wz hSw;obtain ⟨s0,s1,s2⟩:=hSw;go_simp)
    (try with_reducible rfl)
   (try simp only [Act.put,List.setIfInBounds_toArray,List.set_cons_zero,List.set_cons_succ])
  refine anyS_one (i:=1) rfl (by as_aux_lemma=>kernel_rfl) (fun K hK=>?_)
  go_simp
  go_at_call 47
  refine CM.out.mono ?_
  rintro e w4 ⟨a5,c5,R,rfl,hD4,hM4,hB4⟩
  have D4:=hide hD4
  have M4:=hide hM4
  have B4:=hide hB4
  clear hD4 hM4 hB4 HS
  have HS:=hide (SQ.out w4 (B4.out.block _ hbl))
  refine hK.out _ _ HS.out ?_
  clear hK K
  (try simp only [Act.put,List.setIfInBounds_toArray,List.set_cons_zero,List.set_cons_succ])
  refine anyS_one (i:=6) rfl (by as_aux_lemma=>kernel_rfl) (fun K hK=>?_)
  go_simp
  go_at_call 35
  have CC:=l2Copy_any w4 r none 0 w4.heap.size (by rw [HRC.out];exact ⟨rfl,.inl ⟨rfl,rfl⟩⟩) (by rw [HRC.out];exact Nat.zero_le _)
  rw [HRC.out] at CC
  refine CC.mono ?_
  clear CC
  rintro e w5 ⟨rv,rfl,⟨a6,c6,rfl,ho5⟩,hB5⟩
  have O5:=hide ho5
  have B5:=hide hB5
  have hw4:w3.heap.size≤w4.heap.size:=B4.out.size
  have kA5:=(B5.out.block _ (Nat.lt_of_lt_of_le (heap_lt kA3.out) hw4)).trans ((B4.out.block _ (heap_lt kA3.out)).trans kA3.out)
  have kR5:=(B5.out.block _ (Nat.lt_of_lt_of_le (heap_lt kR3.out) hw4)).trans ((B4.out.block _ (heap_lt kR3.out)).trans kR3.out)
  obtain ⟨rl,r0,r1,r2,rf⟩:=three_fact kR5
  have rf0:=rf 0
  have rf1:=rf 1
  have rf2:=rf 2
  have p0:w5.cell? ⟨w.heap.size+1,0,none⟩=some (.slice none 0 0):=by simp [World.cell?,kA5]
  have pf0:w5.frozen? ⟨w.heap.size+1,0,none⟩=false:=by simp [World.frozen?,kA5]
  have pl:=heap_lt kA5
  have hwA:w.heap.size+1<w3.heap.size:=heap_lt kA3.out
  have hwR:w.heap.size+1+1<w3.heap.size:=heap_lt kR3.out
  have b5h:=(B5.out.block hb (Nat.lt_of_lt_of_le hbl hw4)).trans (B4.out.block hb hbl)
  clear rf kA5 kR5 HS ho5 hB5
  have HS:=hide (SQ.out w5 b5h)
  refine hK.out _ _ HS.out ?_
  clear hK K
  (try simp only [Act.put,List.setIfInBounds_toArray,List.set_cons_zero,List.set_cons_succ])
  refine anyS_one (i:=7) rfl (by as_aux_lemma=>kernel_rfl) (fun K hK=>?_)
  go_simp
  have HS7:=hide (SQ.out (w5.setCell ⟨w.heap.size+1,0,none⟩ (.slice a5 R.length c5)) ((Below.heap_setCell _ _ _ _ hne1).trans b5h))
  refine hK.out _ _ HS7.out ?_
  clear hK K
  (try simp only [Act.put])
  have HS8:=hide (SQ.out ((((w5.setCell ⟨w.heap.size+1,0,none⟩ (.slice a5 R.length c5)).setCell ⟨w.heap.size+1+1,0,none⟩ (.int .i64 r.code)).setCell ⟨w.heap.size+1+1,1,none⟩ (.string r.text)).setCell ⟨w.heap.size+1+1,2,none⟩ (.slice a6 r.chain.length c6)) ((Below.heap_setCell _ _ _ _ hne2).trans ((Below.heap_setCell _ _ _ _ hne2).trans ((Below.heap_setCell _ _ _ _ hne2).trans ((Below.heap_setCell _ _ _ _ hne1).trans b5h)))))
  refine anyS_one (i:=8) rfl (by as_aux_lemma=>kernel_rfl) (fun K hK=>?_)
  go_simp
  refine hK.out _ _ HS8.out ?_
  clear hK K
  (try simp only [Act.put])
  refine wpAnyH_done (by as_aux_lemma=>kernel_rfl) ?_ _
  have OF:=hide (own_other (own_other (own_other (own_other O5.out (b:=w.heap.size+1) (fun e=>by have:=(own_cellsM O5.out _ e).1;omega) 0 (.slice a5 R.length c5)) (b:=w.heap.size+1+1) (fun e=>by have:=(own_cellsM O5.out _ e).1;omega) 0 (.int .i64 r.code)) (b:=w.heap.size+1+1) (fun e=>by have:=(own_cellsM O5.out _ e).1;omega) 1 (.string r.text)) (b:=w.heap.size+1+1) (fun e=>by have:=(own_cellsM O5.out _ e).1;omega) 2 (.slice a6 r.chain.length c6))
  have DF:=hide (((((D4.out.below B5.out lr).set (p:=⟨w.heap.size+1,0,none⟩) (e:=43) (.inl (by show w.heap.size+1<w3.heap.size;omega)) (.slice a5 R.length c5)).set (p:=⟨w.heap.size+1+1,0,none⟩) (e:=43) (.inl (by show w.heap.size+1+1<w3.heap.size;omega)) (.int .i64 r.code)).set (p:=⟨w.heap.size+1+1,1,none⟩) (e:=43) (.inl (by show w.heap.size+1+1<w3.heap.size;omega)) (.string r.text)).set (p:=⟨w.heap.size+1+1,2,none⟩) (e:=43) (.inl (by show w.heap.size+1+1<w3.heap.size;omega)) (.slice a6 r.chain.length c6))
  have BF:=hide (((((B3.out.trans ((B4.out.trans (B5.out.mono hw4)).mono hw3)).setCell (p:=⟨w.heap.size+1,0,none⟩) (by show w.heap.size≤w.heap.size+1;omega) (.slice a5 R.length c5)).setCell (p:=⟨w.heap.size+1+1,0,none⟩) (by show w.heap.size≤w.heap.size+1+1;omega) (.int .i64 r.code)).setCell (p:=⟨w.heap.size+1+1,1,none⟩) (by show w.heap.size≤w.heap.size+1+1;omega) (.string r.text)).setCell (p:=⟨w.heap.size+1+1,2,none⟩) (by show w.heap.size≤w.heap.size+1+1;omega) (.slice a6 r.chain.length c6))
  go_wp2
  refine bodyPost_ret (v:=.tuple #[.agg #[.slice a5 R.length c5],.agg #[.int .i64 r.code,.string r.text,.slice a6 r.chain.length c6]]) (by simp [results,Tryz.results15,go_sem,p0,r0,r1,r2]) rfl ⟨a5,c5,R,_,rfl,DF.out.mono hw3,M4.out,⟨a6,c6,rfl,own_mono OF.out (by omega)⟩,BF.out⟩
 ·rw [hl] at hcl
  obtain ⟨r,hr⟩:∃ r,r=stopC c:=⟨_,rfl⟩
  have e:bb=([],r):=by rw [HBB.out,hl,hr];rfl
  subst e
  obtain ⟨a,k,u0,u1,md,or,st,hbx,ho⟩:=hcl
  have hlen:r.chain.length≤1000:=by rw [hr];exact Nat.le_trans (hchain c hl) (by simp)
  have hcl:c.length=r.chain.length:=by rw [hr];rfl
  rw [← hr,hcl] at hbx ho
  clear hr hcl
  obtain ⟨hbl,-,-,-,-,-,b5,b6,b7,b8,-⟩:=hbx.facts
  have HCP:=hide (l2Copy_any w3 r a k _ ho hlen)
  have hne1:hb≠w.heap.size+1:=fun e=>by have:=two_types hbx (e ▸ kA3.out);exact absurd this (by decide)
  have hne2:hb≠w.heap.size+1+1:=fun e=>by have:=two_types hbx (e ▸ kR3.out);exact absurd this (by decide)
  clear hl hchain hbx ho hlen
  go_wp2_with fail
  refine HCP.out.mono ?_
  rintro e w5 ⟨rv,rfl,⟨a6,c6,rfl,ho5⟩,hB5⟩
  have O5:=hide ho5
  have B5:=hide hB5
  have kA5:=(B5.out.block _ (heap_lt kA3.out)).trans kA3.out
  have kR5:=(B5.out.block _ (heap_lt kR3.out)).trans kR3.out
  obtain ⟨rl,r0,r1,r2,rf⟩:=three_fact kR5
  have rf0:=rf 0
  have rf1:=rf 1
  have rf2:=rf 2
  have p0:w5.cell? ⟨w.heap.size+1,0,none⟩=some (.slice none 0 0):=by simp [World.cell?,kA5]
  have pf0:w5.frozen? ⟨w.heap.size+1,0,none⟩=false:=by simp [World.frozen?,kA5]
  have pl:=heap_lt kA5
  have hwA:w.heap.size+1<w3.heap.size:=heap_lt kA3.out
  have hwR:w.heap.size+1+1<w3.heap.size:=heap_lt kR3.out
  have OF:=hide (own_other (own_other (own_other (own_other O5.out (b:=w.heap.size+1) (fun e=>by have:=(own_cellsM O5.out _ e).1;omega) 0 (.slice none 0 0)) (b:=w.heap.size+1+1) (fun e=>by have:=(own_cellsM O5.out _ e).1;omega) 0 (.int .i64 r.code)) (b:=w.heap.size+1+1) (fun e=>by have:=(own_cellsM O5.out _ e).1;omega) 1 (.string r.text)) (b:=w.heap.size+1+1) (fun e=>by have:=(own_cellsM O5.out _ e).1;omega) 2 (.slice a6 r.chain.length c6))
  have BF:=hide (((((B3.out.trans (B5.out.mono hw3)).setCell (p:=⟨w.heap.size+1,0,none⟩) (by show w.heap.size≤w.heap.size+1;omega) (.slice none 0 0)).setCell (p:=⟨w.heap.size+1+1,0,none⟩) (by show w.heap.size≤w.heap.size+1+1;omega) (.int .i64 r.code)).setCell (p:=⟨w.heap.size+1+1,1,none⟩) (by show w.heap.size≤w.heap.size+1+1;omega) (.string r.text)).setCell (p:=⟨w.heap.size+1+1,2,none⟩) (by show w.heap.size≤w.heap.size+1+1;omega) (.slice a6 r.chain.length c6))
  clear rf kA5 kR5 ho5 hB5 b5 b6 b7 b8
  go_wp2_with fail
  refine bodyPost_ret (v:=.tuple #[.agg #[.slice none 0 0],.agg #[.int .i64 r.code,.string r.text,.slice a6 r.chain.length c6]]) (by simp [results,Tryz.results15,go_sem,p0,r0,r1,r2]) rfl ⟨none,0,[],_,rfl,dRow_nil _ _,rfl,⟨a6,c6,rfl,?_⟩,?_⟩
  ·first | exact own_mono OF.out (by omega) | (have h:=own_mono OF.out (show w.heap.size≤w3.heap.size by omega);simpa [p0] using h)
  ·first | exact BF.out | simpa [p0] using BF.out
 ·rw [hl] at hcl
  obtain ⟨r,hr⟩:∃ r,r=stopD d:=⟨_,rfl⟩
  have e:bb=([],r):=by rw [HBB.out,hl,hr];rfl
  subst e
  obtain ⟨u0,u1,md,or,st,hbx,ho⟩:=hcl
  have hlen:r.chain.length≤1000:=by rw [hr];exact Nat.zero_le _
  have hcl:0=r.chain.length:=by rw [hr];rfl
  rw [← hr,hcl] at hbx ho
  clear hr hcl
  obtain ⟨hbl,-,-,-,-,-,b5,b6,b7,b8,-⟩:=hbx.facts
  have HCP:=hide (l2Copy_any w3 r none r.chain.length _ ho hlen)
  have hne1:hb≠w.heap.size+1:=fun e=>by have:=two_types hbx (e ▸ kA3.out);exact absurd this (by decide)
  have hne2:hb≠w.heap.size+1+1:=fun e=>by have:=two_types hbx (e ▸ kR3.out);exact absurd this (by decide)
  clear hl hchain hbx ho hlen
  go_wp2_with fail
  refine HCP.out.mono ?_
  rintro e w5 ⟨rv,rfl,⟨a6,c6,rfl,ho5⟩,hB5⟩
  have O5:=hide ho5
  have B5:=hide hB5
  have kA5:=(B5.out.block _ (heap_lt kA3.out)).trans kA3.out
  have kR5:=(B5.out.block _ (heap_lt kR3.out)).trans kR3.out
  obtain ⟨rl,r0,r1,r2,rf⟩:=three_fact kR5
  have rf0:=rf 0
  have rf1:=rf 1
  have rf2:=rf 2
  have p0:w5.cell? ⟨w.heap.size+1,0,none⟩=some (.slice none 0 0):=by simp [World.cell?,kA5]
  have pf0:w5.frozen? ⟨w.heap.size+1,0,none⟩=false:=by simp [World.frozen?,kA5]
  have pl:=heap_lt kA5
  have hwA:w.heap.size+1<w3.heap.size:=heap_lt kA3.out
  have hwR:w.heap.size+1+1<w3.heap.size:=heap_lt kR3.out
  have OF:=hide (own_other (own_other (own_other (own_other O5.out (b:=w.heap.size+1) (fun e=>by have:=(own_cellsM O5.out _ e).1;omega) 0 (.slice none 0 0)) (b:=w.heap.size+1+1) (fun e=>by have:=(own_cellsM O5.out _ e).1;omega) 0 (.int .i64 r.code)) (b:=w.heap.size+1+1) (fun e=>by have:=(own_cellsM O5.out _ e).1;omega) 1 (.string r.text)) (b:=w.heap.size+1+1) (fun e=>by have:=(own_cellsM O5.out _ e).1;omega) 2 (.slice a6 r.chain.length c6))
  have BF:=hide (((((B3.out.trans (B5.out.mono hw3)).setCell (p:=⟨w.heap.size+1,0,none⟩) (by show w.heap.size≤w.heap.size+1;omega) (.slice none 0 0)).setCell (p:=⟨w.heap.size+1+1,0,none⟩) (by show w.heap.size≤w.heap.size+1+1;omega) (.int .i64 r.code)).setCell (p:=⟨w.heap.size+1+1,1,none⟩) (by show w.heap.size≤w.heap.size+1+1;omega) (.string r.text)).setCell (p:=⟨w.heap.size+1+1,2,none⟩) (by show w.heap.size≤w.heap.size+1+1;omega) (.slice a6 r.chain.length c6))
  clear rf kA5 kR5 ho5 hB5 b5 b6 b7 b8
  go_wp2_with fail
  refine bodyPost_ret (v:=.tuple #[.agg #[.slice none 0 0],.agg #[.int .i64 r.code,.string r.text,.slice a6 r.chain.length c6]]) (by simp [results,Tryz.results15,go_sem,p0,r0,r1,r2]) rfl ⟨none,0,[],_,rfl,dRow_nil _ _,rfl,⟨a6,c6,rfl,?_⟩,?_⟩
  ·first | exact own_mono OF.out (by omega) | (have h:=own_mono OF.out (show w.heap.size≤w3.heap.size by omega);simpa [p0] using h)
  ·first | exact BF.out | simpa [p0] using BF.out
theorem specMake_any (w:World)(nm:ByteArray)(hv0:SlSource w a0 S.n0 S.f0)(hv1:SlTarget w a1 S.n1 S.f1)(hn0:S.n0≤1048576)(hn1:S.n1≤1048576)(hfit:∀ i,i<S.n1→FitsTarget (S.f1 i))(hs:∀ i,i<S.n1→∀ j,j<(S.f1 i).actN→((S.f1 i).act j).s.size≤maxLen) :
  Calls Tryz.prog 15 #[.agg #[.slice a0 S.n0 c0,.slice a1 S.n1 c1],.string nm] w fun e w'=>MakeAt w S (buildP S nm) e w':=by
 by_cases h:checkC S.n0 S.f0 S.n1 S.f1=0∧nameOk nm=true
 ·exact specMake_ok w nm hv0 hv1 hn0 hn1 hfit hs h.1 h.2
 ·have e:buildP S nm=([],⟨9,⟨#[]⟩,[]⟩):=by unfold buildP;rw [if_neg h]
  rw [e]
  exact specMake_bad w nm hv0 hv1 hn0 hn1 hfit hs h
end
structure DHeld (w:World)(base N:Nat)(v:Value)(R:List DR):Prop where
 row:DRow w base v R
 u0:∀ k,v.ownBlock=some k→k<N
 u1:∀ r∈R,(∀ k,r.2.1.ownBlock=some k→k<N)∧∀ k,r.2.2.ownBlock=some k→k<N
theorem dheld_new {w:World}{base:Nat}{v:Value}{R:List DR}(h:DRow w base v R):DHeld w base w.heap.size v R :=
 ⟨h,fun k hk=>(h.own.lt k hk).2,fun r hr=>⟨fun k hk=>((h.sub r hr).act.lt k hk).2,fun k hk=>((h.sub r hr).lnk.lt k hk).2⟩⟩
theorem DHeld.below {w w':World}{base N:Nat}{v:Value}{R:List DR}(h:DHeld w base N v R)(hb:Below w.heap.size w w'):DHeld w' base N v R:=⟨h.row.below hb lr,h.u0,h.u1⟩
theorem DHeld.touch {w w':World}{base N:Nat}{v:Value}{R:List DR}{P:Nat→Prop}(h:DHeld w base N v R)(ht:Touch P w w')(hP:∀ k,P k→k<base∨N≤k):DHeld w' base N v R:=by
 refine ⟨⟨own_blk h.row.own fun k hk=>ht.block k (h.row.own.lt k hk).2 fun hp=>?_,fun r hr=>⟨own_blk (h.row.sub r hr).act fun k hk=>ht.block k ((h.row.sub r hr).act.lt k hk).2 fun hp=>?_,own_blk (h.row.sub r hr).lnk fun k hk=>ht.block k ((h.row.sub r hr).lnk.lt k hk).2 fun hp=>?_⟩,h.row.up⟩,h.u0,h.u1⟩
 ·have h1:=hP k hp
  have h2:=h.u0 k hk
  have h3:=(h.row.own.lt k hk).1
  omega
 ·have h1:=hP k hp
  have h2:=(h.u1 r hr).1 k hk
  have h3:=((h.row.sub r hr).act.lt k hk).1
  omega
 ·have h1:=hP k hp
  have h2:=(h.u1 r hr).2 k hk
  have h3:=((h.row.sub r hr).lnk.lt k hk).1
  omega
def NS (w:World)(x:Nat):Prop:=OfTy w x 86∨OfTy w x 162∨OfTy w x 151
theorem ns_not {w:World}{x:Nat}{t:TypeId}(h:NS w x)(ht:OfTy w x t)(h1:t≠86)(h2:t≠162)(h3:t≠151):False:=by
 rcases h with h | h | h
 ·exact h.ne h1 ht
 ·exact h.ne h2 ht
 ·exact h.ne h3 ht
theorem drow_blk {w:World}{base g c:Nat}{R:List DR}(h:DRow w base (.slice (some ⟨g,0,none⟩) R.length c) R){x:Nat}(hx:DBlk g R.length (rA R) (rL R) (ra R) (rl R) x):NS w x:=by
 rcases hx with rfl | ⟨i,hi,⟨hz,rfl⟩ | ⟨hz,rfl⟩⟩
 ·exact .inl (cu_ty h.own _ rfl)
 ·obtain ⟨r,hr,hm⟩:=drow_at hi
  have ho:=(h.sub r hm).act
  unfold ra at hz
  unfold rA
  rw [rAt_eq hr] at hz ⊢
  obtain ⟨g',c',e⟩:=cu_some ho (by omega)
  refine .inr (.inl (cu_ty ho _ ?_))
  rw [e]
  rfl
 ·obtain ⟨r,hr,hm⟩:=drow_at hi
  have ho:=(h.sub r hm).lnk
  unfold rl at hz
  unfold rL
  rw [rAt_eq hr] at hz ⊢
  obtain ⟨g',c',e⟩:=cu_some ho (by omega)
  refine .inr (.inr (cu_ty ho _ ?_))
  rw [e]
  rfl
theorem Mk.touch {w w':World}{a:Option Addr}{R:List DR}{q:Nat}{P:Nat→Prop}(h:Mk w a R q)(ht:Touch P w w')(hP:∀ g,a=some ⟨g,0,none⟩→∀ x,DBlk g R.length (rA R) (rL R) (ra R) (rl R) x→¬ P x):Mk w' a R q:=by
 rcases h with h | ⟨g,h1,h2,⟨⟨F,hF,h3⟩,h4,h5⟩,h6⟩
 ·exact .inl h
 ·exact .inr ⟨g,h1,h2,⟨⟨F,hF.touch ht (hP g h1 g (.inl rfl)),h3⟩,fun i hi hz=>(h4 i hi hz).touch ht (hP g h1 _ (.inr ⟨i,hi,.inl ⟨hz,rfl⟩⟩)),fun i hi hz=>(h5 i hi hz).touch ht (hP g h1 _ (.inr ⟨i,hi,.inr ⟨hz,rfl⟩⟩))⟩,h6⟩
theorem mark_dheld {w:World}{base N c:Nat}{a:Option Addr}{R:List DR}(h:DHeld w base N (.slice a R.length c) R)(hf:∀ r∈R,FitsDeed r.1)(hn:R.length≤40201) :
  Calls Tryz.prog 18 #[.agg #[.slice a R.length c],.int .i64 1] w fun e w'=>∃ q:Nat,e=.returned (.int .i64 q)∧1≤q∧q≤300000000000∧Touch (fun x=>base≤x∧x<N∧NS w x) w w'∧∀ P w'',(∀ x,P x→¬ NS w x)→Touch P w' w''→Mk w'' a R q:=by
 by_cases hz:R.length=0
 ·rw [hz]
  refine (markAccount_nil a c 1 w).mono ?_
  rintro e w' ⟨rfl,hB⟩
  exact ⟨1,rfl,by omega,by omega,Touch.of_below hB lr,fun _ _ _ _=>.inl ⟨hz,rfl⟩⟩
 ·obtain ⟨g,c',e⟩:=cu_some h.row.own (by omega)
  cases e
  obtain ⟨hP,hC,hB⟩:=h.row.plan hf
  have hle:=dAt_le (k0:=1) (a:=ra R) (l:=rl R) (fun i hi=>(hP.fit i hi).1) (fun i hi=>(hP.fit i hi).2)
  have hge:1≤dAt (ra R) (rl R) 1 R.length:=dAt_ge
  refine (markAccount_row g R.length c 1 _ _ _ _ w (by omega) (by omega) (by omega) hP hC).mono ?_
  rintro e w' ⟨rfl,hM,hT⟩
  refine ⟨_,rfl,hge,by omega,hT.mono fun x hx=>⟨(hB x hx).1,?_,drow_blk h.row hx⟩,fun P w'' hPn hT2=>?_⟩
  ·rcases hx with rfl | ⟨i,hi,⟨hz,rfl⟩ | ⟨hz,rfl⟩⟩
   ·exact h.u0 _ rfl
   ·obtain ⟨r,hr,hm⟩:=drow_at hi
    have ho:=(h.row.sub r hm).act
    have hu:=(h.u1 r hm).1
    unfold ra at hz
    unfold rA
    rw [rAt_eq hr] at hz ⊢
    obtain ⟨g',c',e⟩:=cu_some ho (by omega)
    rw [e] at hu ⊢
    exact hu g' rfl
   ·obtain ⟨r,hr,hm⟩:=drow_at hi
    have ho:=(h.row.sub r hm).lnk
    have hu:=(h.u1 r hm).2
    unfold rl at hz
    unfold rL
    rw [rAt_eq hr] at hz ⊢
    obtain ⟨g',c',e⟩:=cu_some ho (by omega)
    rw [e] at hu ⊢
    exact hu g' rfl
  ·have hmk:Mk w' (some ⟨g,0,none⟩) R (dAt (ra R) (rl R) 1 R.length):=.inr ⟨g,rfl,hP,hM,rfl⟩
   refine hmk.touch hT2 fun g' e x hx hp=>?_
   cases e
   exact hPn x hp (drow_blk h.row hx)
theorem mark_dheldN {w:World}{base N c n:Nat}{a:Option Addr}{R:List DR}{D:List Deed}(e:n=R.length)(hM:R.map (·.1)=D)(h:DHeld w base N (.slice a n c) R)(hf:∀ x∈D,FitsDeed x)(hn:n≤40201) :
  Calls Tryz.prog 18 #[.agg #[.slice a n c],.int .i64 1] w fun e w'=>∃ q:Nat,e=.returned (.int .i64 q)∧1≤q∧q≤300000000000∧Touch (fun x=>base≤x∧x<N∧NS w x) w w'∧∀ P w'',(∀ x,P x→¬ NS w x)→Touch P w' w''→Mk w'' a R q:=by
 subst e hM
 exact mark_dheld h (fun r hr=>hf r.1 (List.mem_map_of_mem hr)) hn
theorem held_drowN {w:World}{c q n:Nat}{a:Option Addr}{R:List DR}(e:n=R.length)(h:Mk w a R q)(hn:n≤40201) :
  Calls Tryz.prog 19 #[.agg #[.slice a n c],.int .i64 1] w fun e w'=>e=.returned (.int .i64 q)∧Below w.heap.size w w':=by
 subst e
 exact held_drow h (by omega)
theorem DHeld.deedsN {w:World}{base N c n:Nat}{a:Option Addr}{R:List DR}{D:List Deed}(h:DHeld w base N (.slice a n c) R)(e:n=R.length)(hD:R.map (·.1)=D):SlDeed w a n (dF D):=by
 subst hD e
 exact h.row.deeds
structure RcH (w:World)(base N:Nat)(a:Option Addr)(c:Nat)(L:List ByteArray):Prop where
 own:w.ownsRow base 9 1 (.slice a L.length c) L.length (strV L)
 u:∀ k,(Value.slice a L.length c).ownBlock=some k→base≤k∧k<N
theorem rch_new {w:World}{base c:Nat}{a:Option Addr}{L:List ByteArray}(h:w.ownsRow base 9 1 (.slice a L.length c) L.length (strV L)):RcH w base w.heap.size a c L:=⟨h,fun k hk=>h.lt k hk⟩
theorem RcH.below {w w':World}{base N c:Nat}{a:Option Addr}{L:List ByteArray}(h:RcH w base N a c L)(hb:Below w.heap.size w w'):RcH w' base N a c L:=⟨own_below h.own hb lr,h.u⟩
theorem RcH.touch {w w':World}{base N c:Nat}{a:Option Addr}{L:List ByteArray}{P:Nat→Prop}(h:RcH w base N a c L)(ht:Touch P w w')(hP:∀ k,base≤k→k<N→OfTy w k 9→¬ P k):RcH w' base N a c L :=
 ⟨own_blk h.own fun k hk=>ht.block k (h.own.lt k hk).2 (hP k (h.u k hk).1 (h.u k hk).2 (cu_ty h.own k hk)),h.u⟩
theorem RcH.sl {w:World}{base N c:Nat}{a:Option Addr}{L:List ByteArray}(h:RcH w base N a c L):SlStr w a L.length (btF L):=by
 obtain ⟨g,hg⟩:=ch_of h.own
 exact hg.sl
theorem RcH.room {w:World}{base N c:Nat}{a:Option Addr}{L:List ByteArray}(h:RcH w base N a c L):∃ g,Room w a L.length g L.length∧(L.length≠0→(Value.slice a L.length c).ownBlock=some g):=by
 by_cases hz:L.length=0
 ·exact ⟨0,.inl hz,fun h=>absurd hz h⟩
 ·obtain ⟨g,hg⟩:=ch_of h.own
  obtain ⟨rfl,_⟩:=hg.resolve_left hz
  exact ⟨g,hg.room,fun _=>rfl⟩
def RcM (w:World)(a:Option Addr)(n k0:Nat):Prop:=n=0∨∃ b,a=some ⟨b,0,none⟩∧Cells w b 0 n (markStr k0)
theorem RcM.below {w w':World}{a:Option Addr}{n k0:Nat}(h:RcM w a n k0)(hb:Below w.heap.size w w'):RcM w' a n k0:=by
 rcases h with h | ⟨b,e,hC⟩
 ·exact .inl h
 ·exact .inr ⟨b,e,hC.below hb hC.1⟩
theorem markResult_k (cd:Int)(t:ByteArray)(a:Option Addr)(c base N k0:Nat)(L:List ByteArray)(w:World)(hn:L.length≤60)(h1:1≤k0)(h2:k0≤300000000000)(h:RcH w base N a c L) :
  Calls Tryz.prog 13 #[.agg #[.int .i64 cd,.string t,.slice a L.length c],.int .i64 k0] w fun e w'=>e=.returned (.int .i64 ((k0+L.length:Nat):Int))∧RcM w' a L.length k0∧Touch (fun x=>(Value.slice a L.length c).ownBlock=some x) w w':=by
 have B0:Hid (Below w.heap.size w (w.alloc (.cells #[.int .i64 cd,.string t,.slice a L.length c] 29))):=(Below.refl _ _).alloc lr _
 obtain ⟨g,hR,hg⟩:=(h.below B0.out).room
 obtain ⟨n,hnn⟩:∃ n,n=L.length:=⟨_,rfl⟩
 rw [← hnn] at hR hg hn B0 ⊢
 have HR:=hide hR
 have HG:=hide hg
 clear h hR hg hnn
 go_enter Tryz.func13,Tryz.ntmps13
 go_wp2_with fail
 refine (markStr_sl a n c k0 g _ (by omega) (by omega) (by omega) HR.out).mono ?_
 rintro e w1 ⟨rfl,hM,hT⟩
 have HM:Hid (RcM w1 a n k0):=hM.imp id fun ⟨e,hc⟩=>⟨g,e,hc⟩
 have HT:=hide ((Touch.of_below (P:=fun x=>(Value.slice a n c).ownBlock=some x) B0.out lr).trans (hT.mono fun x ⟨h1,h2⟩=>by rw [h2];exact HG.out h1))
 clear hM hT
 go_wp2
 go_ret
 exact ⟨rfl,HM.out,HT.out⟩
theorem heldResult_k (cd:Int)(t:ByteArray)(a:Option Addr)(n c k0:Nat)(w:World)(hn:n≤60)(h1:1≤k0)(h2:k0≤300000000000)(h:RcM w a n k0) :
  Calls Tryz.prog 14 #[.agg #[.int .i64 cd,.string t,.slice a n c],.int .i64 k0] w fun e w'=>e=.returned (.int .i64 ((k0+n:Nat):Int))∧Below w.heap.size w w':=by
 have B0:Hid (Below w.heap.size w (w.alloc (.cells #[.int .i64 cd,.string t,.slice a n c] 29))):=(Below.refl _ _).alloc lr _
 obtain ⟨b,hb⟩:∃ b,n=0∨(a=some ⟨b,0,none⟩∧Cells (w.alloc (.cells #[.int .i64 cd,.string t,.slice a n c] 29)) b 0 n (markStr k0)):=by
  rcases h.below B0.out with h | ⟨b,e⟩
  ·exact ⟨0,.inl h⟩
  ·exact ⟨b,.inr e⟩
 have HB:=hide hb
 clear h hb
 have hq:¬ (((k0+n:Nat):Int)<0):=by omega
 go_enter Tryz.func14,Tryz.ntmps14
 go_wp2_with fail
 refine (heldStr_sl a n c k0 b _ (by omega) (by omega) (by omega) HB.out).mono ?_
 rintro e w1 ⟨rfl,hB⟩
 have B1:=hide (B0.out.trans (hB.mono B0.out.size))
 clear hB
 go_wp2
 go_ret
 exact ⟨rfl,B1.out⟩
structure One1 (w:World)(b:Nat)(v0:Value):Prop where
 lt:b<w.heap.size
 c0:w.cell? ⟨b,0,none⟩=some v0
theorem One1.block {w w':World}{b:Nat}{v0:Value}(h:One1 w b v0)(hz:w.heap.size≤w'.heap.size)(hb:w'.heap[b]?=w.heap[b]?):One1 w' b v0 :=
 ⟨Nat.lt_of_lt_of_le h.lt hz,(World.cell?_of_block (a:=⟨b,0,none⟩) hb).trans h.c0⟩
theorem One1.below {w w':World}{b:Nat}{v0:Value}(h:One1 w b v0)(hb:Below w.heap.size w w'):One1 w' b v0:=h.block hb.size (hb.block b h.lt)
theorem One1.touch {w w':World}{b:Nat}{v0:Value}{P:Nat→Prop}(h:One1 w b v0)(ht:Touch P w w')(hb:¬ P b):One1 w' b v0:=h.block ht.size (ht.block b h.lt hb)
theorem pair_box (w:World)(v u0 u1 u2:Value)(t t':TypeId):One1 ((w.alloc (.cells #[v] t)).alloc (.cells #[u0,u1,u2] t')) w.heap.size v∧Three ((w.alloc (.cells #[v] t)).alloc (.cells #[u0,u1,u2] t')) (w.heap.size+1) u0 u1 u2:=by
 have h:=three_box (w.alloc (.cells #[v] t)) u0 u1 u2 t'
 rw [show (w.alloc (.cells #[v] t)).heap.size=w.heap.size+1 by simp] at h
 have h1:One1 (w.alloc (.cells #[v] t)) w.heap.size v:=⟨by simp,by simp⟩
 exact ⟨h1.below ((Below.refl _ _).alloc lr _),h⟩
theorem dF_fits {D:List Deed}(h:∀ x∈D,FitsDeed x):∀ i,i<D.length→FitsDeed (dF D i):=by
 intro i hi
 have e:dF D i=D[i]:=by unfold dF;rw [List.getD_eq_getElem?_getD,List.getElem?_eq_getElem hi];rfl
 rw [e]
 exact h _ (List.getElem_mem hi)
theorem make_len (S:Spc)(made:List Ent):(makeD S made).length=made.length:=List.length_map _
end Go.Proofs.YtfnbojfnelfnkaaGreatDoor.Vp
