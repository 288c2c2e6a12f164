import Derived.Test.YtfnbojfnelfnkaaGreatDoorYK
set_option maxRecDepth 1000000
set_option maxHeartbeats 8000000
namespace Go.Proofs.YtfnbojfnelfnkaaGreatDoor.Vp
open Go.RowKit Go.Proofs.YtfnbojfnelfnkaaGreatDoor.Ca
theorem wrapS {z:Int}(h0:0≤z)(h1:z≤1048576):IntKind.i64.wrap z=z:=by
 rw [IntKind.wrap_i64]
 omega
theorem own_ks {w w':World}{B n:Nat}{v:Value}{xs:List Value}(h:w.ownsRow B 149 3 v n xs)(hk:KS B XN w w'):w'.ownsRow B 149 3 v n xs:=own_blk h fun k e=>by
 obtain ⟨_,_,cs,hc⟩:=own_cellsM h k e
 exact hk.blk _ _ _ _ hc (by decide) (by decide) (by decide) fun h=>h
theorem LExt.add (n:Nat)(L:List SM){m:SM}(hd:m.done=false):LExt n L (L++[m]):=by
 refine ⟨fun i m2 hm=>⟨m2,?_,rfl⟩,fun m2 hm hd2=>?_⟩
 ·rw [List.getElem?_append_left (List.getElem?_eq_some_iff.1 hm).1]
  exact hm
 ·rcases List.mem_append.1 hm with hm | hm
  ·exact .inl ⟨m2,hm,hd2,rfl⟩
  ·rw [List.mem_singleton.1 hm,hd] at hd2
   cases hd2
theorem LExt.set {n k:Nat}{L L1:List SM}{m m':SM}(h:LExt n L L1)(hk:L1[k]?=some m)(hm:m'.name=m.name)(hs:∀ j,m'.sv.ownBlock=some j→n≤j):LExt n L (L1.set k m'):=by
 refine ⟨fun i m2 hm2=>?_,fun m2 hm2 hd2=>?_⟩
 ·obtain ⟨m3,h3,e3⟩:=h.nam i m2 hm2
  by_cases hik:k=i
  ·subst hik
   rw [hk] at h3
   cases h3
   exact ⟨m',List.getElem?_set_self (List.getElem?_eq_some_iff.1 hk).1,hm.trans e3⟩
  ·exact ⟨m3,by rw [List.getElem?_set_ne hik];exact h3,e3⟩
 ·rcases List.mem_or_eq_of_mem_set hm2 with hm3 | rfl
  ·exact h.sn m2 hm3 hd2
  ·exact .inr hs
section
variable {w0:World}{S:Spc}{a0 a1:Option Addr}{c0 c1 hb:Nat}{md or st:Value}{making:List ByteArray}{made:List Ent}{L:List SM}
theorem make_tgt (C:SCtx w0 S a0 a1)(n':Nat)(HK:MakeOk w0 S hb (.slice a0 S.n0 c0) (.slice a1 S.n1 c1) n')(w:World)(nm:ByteArray)(hlen:making.length+(n'+1)=60)(h:SI w0 hb (.slice a0 S.n0 c0) (.slice a1 S.n1 c1) w making made L md or st)(hrel:SRel L making made)(hp:PG S making made)(hroom:roomS S making made 1)(hmt:MT S making)(h0:entOf made nm=none)(hi:atL making nm=none)(tg:Nat)(h3:atI (nm1 S.f1) S.n1 nm=some tg) :
  Calls Tryz.prog 90 #[.pointer (some ⟨hb,0,none⟩),.string nm] w fun e w'=>MakePost w0 hb (.slice a0 S.n0 c0) (.slice a1 S.n1 c1) making L w e w' (finE nm tg (runL S (liesP S n' (making++[nm])) tg 201 made [] [])):=by
 obtain ⟨h1,hne⟩:=rel_no hrel h0 hi
 have hmade:made.length≤50000:=by unfold roomS at hroom;omega
 have hLn:L.length≤100000:=by have:=hrel.len;omega
 have hm60:making.length<60:=by omega
 have hT1:=(atI_some h3).1
 obtain ⟨R,hR⟩:∃ R,R=runL S (liesP S n' (making++[nm])) tg 201 made [] []:=⟨_,rfl⟩
 have HR:=hide hR
 obtain ⟨tb,tof,ha1,hrow⟩:=C.tgt.resolve_left (by omega)
 have HA1:=hide ha1
 have HROW:=hide hrow
 have HRUN:Hid (∀ (W:World) (md' or' st':Value) (a:Option Addr) (cap:Nat),SI w0 hb (.slice a0 S.n0 c0) (.slice a1 S.n1 c1) W (making++[nm]) made (L++[newM nm]) md' or' st'→SlIns w0 a (S.f1 tg).actN (S.f1 tg).act→Calls Tryz.prog 134 #[.pointer (some ⟨hb,0,none⟩),.agg #[.slice a (S.f1 tg).actN cap]] W fun e w'=>SRunPost w0 hb (.slice a0 S.n0 c0) (.slice a1 S.n1 c1) (making++[nm]) (L++[newM nm]) W e w' R):=by
  intro W md' or' st' a cap hS hsl
  rw [hR]
  refine srun_any C n' HK made _ md' or' st' W a cap tg (by rw [List.length_append,List.length_singleton];omega) hS (rel_begin hrel hne rfl rfl) (off_add hp h0) ?_ ?_ hT1 hsl
  ·have:=leftN_begin hT1 (atI_some h3).2 h0 hi
   unfold roomS at hroom ⊢
   omega
  ·intro t ht
   rcases List.mem_append.1 ht with ht | ht
   ·exact hmt t ht
   ·rw [List.mem_singleton.1 ht,h3];rfl
 have HI:=hide hi
 have H0:=hide h0
 have HGD:Hid (∀ made1 x,R=.inl (made1,x)→made1.length≤100000∧∀ y∈made1,y.name≠nm):=by
  intro made1 x he
  rw [hR] at he
  have g1:=runL_good C.ok hT1 (liesP_good C.ok n' (making++[nm])) _ _ _ _ _ _ (off_add hp h0) (rg_nil S made) rfl he
  have g2:=runL_grow (fun made nm2 made' e=>liesP_grow S n' (making++[nm]) made nm2 made' e) _ _ _ _ _ _ he
  have g3:=leftN_begin hT1 (atI_some h3).2 h0 hi
  refine ⟨?_,(off_sub g1.1).2⟩
  unfold Grow at g2
  unfold roomS at hroom
  omega
 have HNE:=hide hne
 have HREL:=hide hrel
 rw [← hR]
 clear HK hp hroom hmt h0 hrow ha1 hR hne hrel
 obtain ⟨im,him,hm0,hm1,hm2⟩:=infoS2 infoMade
 obtain ⟨i1,hi1,hy0,hy1,hy2⟩:=infoS2 infoStrS
 have A0:=hide ((Below.refl w.heap.size w).alloc lr (.cells #[.int .i64 0,.string ⟨#[]⟩,.slice none 0 0] 29))
 have kr:Hid ((w.alloc (.cells #[.int .i64 0,.string ⟨#[]⟩,.slice none 0 0] 29)).heap[w.heap.size]?=some (.cells #[.int .i64 0,.string ⟨#[]⟩,.slice none 0 0] 29 (0,0))):=heap_alloc_new _ _
 have S0:=hide (h.below A0.out lr)
 have hB0:w0.heap.size≤w.heap.size:=h.lt
 have e1:idxI (fI L nm)=-1:=by rw [h1];rfl
 obtain ⟨am,cm,rfl⟩:=sh_slice h.rmd
 obtain ⟨n,hn⟩:∃ n,n=L.length:=⟨_,rfl⟩
 have HN:=hide hn
 have CC:=hide C
 have hsm:=C.ok.small
 have hn1:n≤100000:=by omega
 clear h h1 hn C
 obtain ⟨es0,es⟩:∃ z,idxI (atI (nm0 S.f0) S.n0 nm)=z:=⟨_,rfl⟩
 clear hT1
 have et:idxI (atI (nm1 S.f1) S.n1 nm)=(tg:Int):=by rw [h3];rfl
 have hbef:∀ (j:Nat) (y:ByteArray),making[j]?=some y→(y.toList == nm.toList)=false:=fun j y hy=>by
  unfold atL at hi
  rw [List.findIdx?_eq_none_iff] at hi
  exact hi y (List.mem_of_getElem? hy)
 have HBF:=hide hbef
 obtain ⟨ms,hms⟩:∃ ms,ms=making.length:=⟨_,rfl⟩
 have HMS:=hide hms
 have hT0:(0:Int)≤(tg:Int):=by omega
 have hT1:=(atI_some h3).1
 rw [← hms] at hm60
 obtain ⟨ast,cst,rfl⟩:=sh_slice S0.out.rst
 clear h3 hi hbef hms
 clear hlen
 go_enter Tryz.func90,Tryz.ntmps90
 go_wp2_with fail
 generalize w.alloc (.cells #[.int .i64 0,.string ⟨#[]⟩,.slice none 0 0] 29)=W0 at A0 kr S0 ⊢
 refine (find_any W0 nm S0.out hLn).mono ?_
 rintro e w1 ⟨rfl,hw1⟩
 rw [hw1,e1]
 clear hw1 e1
 obtain ⟨hbl,-,-,b2,-⟩:=S0.out.box.facts
 rw [← HN.out] at b2
 have A1:=hide ((Below.refl W0.heap.size W0).alloc lr (.cells #[.string nm,.int .i64 0,.string ⟨#[]⟩,.slice none 0 0,.slice none 0 0,.bool false] 146))
 have SA:=hide (S0.out.below A1.out lr)
 have RM:=hide (by have h:=SA.out.rmd;rw [← HN.out] at h;exact h)
 have hz1:(W0.alloc (.cells #[.string nm,.int .i64 0,.string ⟨#[]⟩,.slice none 0 0,.slice none 0 0,.bool false] 146)).heap.size=W0.heap.size+1:=by simp
 have HG:Hid (∀ w2:World,(W0.alloc (.cells #[.string nm,.int .i64 0,.string ⟨#[]⟩,.slice none 0 0,.slice none 0 0,.bool false] 146)).grownBy w2 (Value.slice am n cm).ownBlock→w2.heap[hb]?=(W0.alloc (.cells #[.string nm,.int .i64 0,.string ⟨#[]⟩,.slice none 0 0,.slice none 0 0,.bool false] 146)).heap[hb]?):=fun w2 hg=>hg.block hb (by omega) fun e=>by
  obtain ⟨_,_,cs,hc⟩:=own_cellsM RM.out hb e.symm
  exact absurd (two_types SA.out.box hc) (by decide)
 have hbs1:w0.heap.size≤(W0.alloc (.cells #[.string nm,.int .i64 0,.string ⟨#[]⟩,.slice none 0 0,.slice none 0 0,.bool false] 146)).heap.size:=SA.out.lt
 have hz1':W0.heap.size<(W0.alloc (.cells #[.string nm,.int .i64 0,.string ⟨#[]⟩,.slice none 0 0,.slice none 0 0,.bool false] 146)).heap.size:=by omega
 clear hz1
 go_upto_region 7 with (first
  | (at_builtin;refine wpList_append_at _ rfl (.tmp 46) (.tmp 49) 66 rfl w0.heap.size 146 im (.agg #[.string ⟨#[]⟩,.int .i64 0,.string ⟨#[]⟩,.slice none 0 0,.slice none 0 0,.bool false]) 6 96 Tryz.underlying66 him hm0 hm1 hm2 rfl (by decide) (.slice am n cm) n (L.flatMap smV) (by simp [Act.eval]) RM.out ⟨W0.heap.size,0,none⟩ 1 1 [.string nm,.int .i64 0,.string ⟨#[]⟩,.slice none 0 0,.slice none 0 0,.bool false] (by simp [Act.eval]) rfl (six_new2 W0 _ _ _ _ _ _ _) (by simp [Value.oneCell']) (by unfold maxLen;omega) (by omega) hbs1 ?_;intro v2 w2 hown hgrow hat;have O2:=hide hown;have G2:=hide hgrow;have hb2:=hide (HG.out w2 hgrow);obtain ⟨g2,cp2,cu2,rfl,hq2⟩:=hown.2.resolve_left (fun h=>by omega);clear hq2 hown hgrow hat;obtain ⟨hbl2,-,-,f2,-,-,-,-,-,-,ff⟩:=(ShBox.blk SA.out.box hb2.out).facts;have ff2:=ff 2;clear ff)
  | fail)
 have SX:=hide (SA.out.addL (m:=newM nm) (w':=w2) (v:=.slice (some ⟨g2,0,none⟩) (n+1) cp2) (by rw [← HN.out];exact G2.out) (by rw [← HN.out];exact O2.out) rfl)
 have S3:=hide SX.out.1
 have K3:Hid (KS w0.heap.size XN w (w2.setCell ⟨hb,2,none⟩ (.slice (some ⟨g2,0,none⟩) (n+1) cp2))):=((KS.of_below (X:=XN) A0.out lr hB0).to (KS.of_below A1.out lr S0.out.lt)).to SX.out.2
 have kr3:Hid ((w2.setCell ⟨hb,2,none⟩ (.slice (some ⟨g2,0,none⟩) (n+1) cp2)).heap[w.heap.size]?=some (.cells #[.int .i64 0,.string ⟨#[]⟩,.slice none 0 0] 29 (0,0))):=by
  have h0:=(A1.out.block _ (heap_lt kr.out)).trans kr.out
  exact (SX.out.2.blk _ _ _ _ h0 (by decide) (by decide) (by decide) fun h=>h).trans h0
 have hL1:(L++[newM nm]).length=n+1:=by rw [List.length_append,List.length_singleton,← HN.out]
 have hLk:Hid ((L++[newM nm])[n]?=some (newM nm)):=by rw [HN.out];show _=_;rw [List.getElem?_append_right lr,Nat.sub_self];rfl
 clear SX f2 ff2 hbl2 b2 hbl RM SA A1 HG O2 G2 hb2
 generalize w2.setCell ⟨hb,2,none⟩ (.slice (some ⟨g2,0,none⟩) (n+1) cp2)=W3 at S3 K3 kr3 ⊢
 obtain ⟨hbl,b0,b1,-⟩:=S3.out.box.facts
 go_wp2_with fail
 refine (l2Source_at a0 S.n0 c0 a1 S.n1 c1 S.f0 nm W3 (by omega) (CC.out.src.below S3.out.bel lr)).mono ?_
 rintro e w4 ⟨he,hB⟩
 rw [es] at he
 subst he
 have S4:=hide (S3.out.below hB lr)
 have kr4:Hid (w4.heap[w.heap.size]?=_):=(hB.block _ (heap_lt kr3.out)).trans kr3.out
 have K4:=hide (K3.out.to (KS.of_below (X:=XN) hB lr S3.out.lt))
 clear hB b0 b1 hbl S3 K3 kr3
 obtain ⟨hbl,b0,b1,-⟩:=S4.out.box.facts
 go_wp2_with fail
 refine (l2Target_at a0 S.n0 c0 a1 S.n1 c1 S.f1 nm w4 (by omega) (CC.out.tgt.below S4.out.bel lr)).mono ?_
 rintro e w5 ⟨he,hB⟩
 rw [et] at he
 subst he
 have S5:=hide (S4.out.below hB lr)
 have kr5:Hid (w5.heap[w.heap.size]?=some (.cells #[.int .i64 0,.string ⟨#[]⟩,.slice none 0 0] 29 (0,0))):=(hB.block _ (heap_lt kr4.out)).trans kr4.out
 have K5:=hide (K4.out.to (KS.of_below (X:=XN) hB lr S4.out.lt))
 clear hB b0 b1 hbl S4 K4 kr4 A0 S0 kr
 obtain ⟨hbl,-,-,-,-,b4,b5,b6,b7,b8,bf⟩:=S5.out.box.facts
 have bf4:=bf 4
 have bf5:=bf 5
 have bf6:=bf 6
 have bf7:=bf 7
 have bf8:=bf 8
 rw [← HMS.out] at b4
 clear bf
 go_wp2_with fail
 go_loop [9] (fun i=>∃ j:Nat,j≤ms∧i=.int .i64 j) (fun i=>ms - (intOf i).toNat)
 case atStart=>exact ⟨0,by omega,rfl⟩
 case round =>
 obtain ⟨j,hj,rfl⟩:=hrel
 by_cases hlt:j<ms
 ·obtain ⟨y,hy⟩:∃ y,making[j]?=some y:=⟨_,List.getElem?_eq_getElem (by have:=HMS.out;omega)⟩
  obtain ⟨gs,cs,cus,ev,-⟩:=S5.out.rst.2.resolve_left (fun h=>by have:=HMS.out;omega)
  rw [← HMS.out] at ev
  cases ev
  have dj:w5.cell? ⟨gs,j,none⟩=some (.string y):=str_cell S5.out.rst hy
  have hjm:(j:Int)<(ms:Int):=by omega
  have HNE:=hide (HBF.out j y hy)
  clear hy
  have hne:=HNE.out
  go_wp2
  exact ⟨⟨j+1,by omega,by go_num⟩,by simp [intOf];omega⟩
 obtain rfl:j=ms:=by omega
 ·have hI60:¬ (60:Int)≤(j:Int):=by omega
  clear b5 b6 b7 b8 bf5 bf6 bf7 bf8
  have A6:=hide ((Below.refl w5.heap.size w5).alloc lr (.cells #[.string nm] 9))
  have S6:=hide (S5.out.below A6.out lr)
  have RS:=hide (by have h:=S6.out.rst;rw [← HMS.out] at h;exact h)
  have hbs6:w0.heap.size≤(w5.alloc (.cells #[.string nm] 9)).heap.size:=S6.out.lt
  obtain ⟨q0,aa,ca,q1,-⟩:=(HROW.out.below S6.out.bel lr).2 tg hT1
  obtain ⟨-,aa',ca',q1',hsl⟩:=HROW.out.2 tg hT1
  have htb0:=HROW.out.1
  have e1:=(S6.out.bel.cell (p:=⟨tb,tof+tg*2+1,none⟩) htb0).trans q1'
  rw [q1] at e1
  simp only [Option.some.injEq,Value.slice.injEq,true_and] at e1
  obtain ⟨rfl,rfl⟩:=e1
  have HSL:=hide hsl
  have Q1:=hide q1
  clear q0 q1 q1' hsl
  have KR6:Hid ((w5.alloc (.cells #[.string nm] 9)).heap[w.heap.size]?=some (.cells #[.int .i64 0,.string ⟨#[]⟩,.slice none 0 0] 29 (0,0))):=(A6.out.block _ (heap_lt kr5.out)).trans kr5.out
  have HG:Hid (∀ w2:World,(w5.alloc (.cells #[.string nm] 9)).grownBy w2 (Value.slice ast j cst).ownBlock→w2.heap[hb]?=(w5.alloc (.cells #[.string nm] 9)).heap[hb]?∧w2.heap[tb]?=(w5.alloc (.cells #[.string nm] 9)).heap[tb]?):=fun w2 hg=>by
   refine ⟨hg.block hb (heap_lt S6.out.box) fun e=>?_,hg.block tb (Nat.lt_of_lt_of_le htb0 hbs6) fun e=>?_⟩
   ·obtain ⟨_,_,cs2,hc⟩:=own_cellsM RS.out hb e.symm
    exact absurd (two_types S6.out.box hc) (by decide)
   ·have:=(own_cellsM RS.out tb e.symm).1
    omega
  have hBB:w0.heap.size≤hb:=S5.out.hbB
  have htbh:¬ tb=hb:=by omega
  have htbh':¬ hb=tb:=by omega
  have htI:(tg:Int)<(S.n1:Int):=by omega
  go_wp2_with (first
   | (at_builtin;refine wpList_append_at _ rfl (.tmp 166) (.tmp 168) 27 rfl w0.heap.size 9 i1 (.string ⟨#[]⟩) 1 16 Tryz.underlying27 hi1 hy0 hy1 hy2 rfl (by decide) (.slice ast j cst) j (strV making) (by simp [Act.eval]) RS.out ⟨w5.heap.size,0,none⟩ 1 1 [.string nm] (by simp [Act.eval]) rfl (one_new2 w5 _ _) (by simp [Value.oneCell']) (by unfold maxLen;omega) (by omega) hbs6 ?_;intro v7 w7 hown hgrow hat;have O7:=hide hown;have G7:=hide hgrow;have AT7:=hide hat;have hb7:=hide (HG.out w7 hgrow);obtain ⟨g7,c7,cu7,rfl,hq7⟩:=hown.2.resolve_left (fun h=>by omega);clear hq7 hown hgrow hat;obtain ⟨hbl7,-,f1,-,-,f4,-,-,-,-,ff⟩:=(ShBox.blk S6.out.box hb7.out.1).facts;have ff4:=ff 4;rw [HA1.out] at f1;have f9:=(World.cell?_of_block (a:=⟨tb,tof+tg*2+1,none⟩) hb7.out.2).trans Q1.out;have htl:tb<w7.heap.size:=(Nat.lt_of_lt_of_le (Nat.lt_of_lt_of_le htb0 hBB) (Nat.le_of_lt hbl7));clear ff)
   | fail)
  have SP:=hide (S6.out.push (nm:=nm) (w':=w7) (v:=.slice (some ⟨g7,0,none⟩) (j+1) c7) (by rw [← HMS.out];exact G7.out) (by rw [← HMS.out];exact O7.out) (by rw [← HMS.out];exact AT7.out))
  have S7:=hide SP.out.1
  have K7:Hid (KS w0.heap.size XN w (w7.setCell ⟨hb,4,none⟩ (.slice (some ⟨g7,0,none⟩) (j+1) c7))):=(K5.out.to (KS.of_below (X:=XN) A6.out lr S5.out.lt)).to SP.out.2
  have kr7:Hid ((w7.setCell ⟨hb,4,none⟩ (.slice (some ⟨g7,0,none⟩) (j+1) c7)).heap[w.heap.size]?=some (.cells #[.int .i64 0,.string ⟨#[]⟩,.slice none 0 0] 29 (0,0))):=(SP.out.2.blk _ _ _ _ KR6.out (by decide) (by decide) (by decide) fun h=>h).trans KR6.out
  clear SP f1 f4 f9 ff4 hbl7 htl O7 G7 AT7 hb7 HG RS S6 A6 KR6 Q1 S5 K5 kr5 b4 bf4 hbl
  generalize w7.setCell ⟨hb,4,none⟩ (.slice (some ⟨g7,0,none⟩) (j+1) c7)=W7 at S7 K7 kr7 ⊢
  refine (HRUN.out W7 _ _ _ aa ca S7.out HSL.out).mono ?_
  clear HRUN
  rintro e w8 hpost
  rcases R with ⟨made1,x⟩ | c | d
  ·obtain ⟨L1,md1,or1,st1,gx,cx,rfl,hS8,hrel8,hO8,hno8,hX8,hK8⟩:=hpost
   obtain ⟨hmd1,hne1⟩:=HGD.out made1 x rfl
   clear HGD
   obtain ⟨rc,hrc⟩:∃ rc,rc=x.1.code:=⟨_,rfl⟩
   obtain ⟨rt,hrt⟩:∃ rt,rt=x.1.text:=⟨_,rfl⟩
   obtain ⟨ls,hls⟩:∃ ls,ls=x.2:=⟨_,rfl⟩
   obtain ⟨ln,hln⟩:∃ ln,ln=ls.length:=⟨_,rfl⟩
   have hfin:finE nm tg (.inl (made1,x))=.inl ((made1++[⟨nm,3,rc,rt,tg,ls⟩]),⟨nm,3,rc,rt,tg,ls⟩):=by rw [hrc,hrt,hls];rfl
   have HFIN:=hide hfin
   rw [← hls,← hln] at hO8
   rw [← hrc,← hrt,← hls,← hln]
   clear hfin hrc hrt hls
   have HLNE:=hide hln
   clear hln
   obtain ⟨m1,hm1,hm1n⟩:=hX8.nam n (newM nm) hLk.out
   replace hm1n:m1.name=nm:=hm1n
   have HD1:Hid (m1.done=false):=by
    obtain ⟨m2,hm2,e2,e3⟩:=hrel8.mkg nm (List.mem_append_right _ (List.mem_singleton.2 rfl))
    obtain ⟨i2,hi2⟩:=List.getElem?_of_mem hm2
    have e4:=nod_one hrel8.nod hi2 hm1 (e2.trans hm1n.symm)
    rw [e4,hm1] at hi2
    cases hi2
    exact e3
   have hLk:=hide hm1
   obtain ⟨N,hN⟩:∃ N,N=L1.length:=⟨_,rfl⟩
   have hL1:L1.length=N:=hN.symm
   have hnN:n<N:=by rw [hN];exact (List.getElem?_eq_some_iff.1 hm1).1
   obtain ⟨gm,cm1,cum,rfl,-⟩:=hS8.rmd.2.resolve_left (fun h=>by omega)
   obtain ⟨gp,cpp,cup,rfl,hcl⟩:=hS8.rst.2.resolve_left (fun h=>by rw [List.length_append,List.length_singleton] at h;omega)
   have hcp:j+1≤cpp:=by have:=hcl.2.2.1;rw [List.length_append,List.length_singleton,← HMS.out] at this;exact this
   rw [hL1,List.length_append,List.length_singleton,← HMS.out] at hS8
   have KW:=hide (K7.out.to hK8)
   have kr8:Hid (w8.heap[w.heap.size]?=some (.cells #[.int .i64 0,.string ⟨#[]⟩,.slice none 0 0] 29 (0,0))):=(hK8.blk _ _ _ _ kr7.out (by decide) (by decide) (by decide) fun h=>h).trans kr7.out
   have hw7:w.heap.size≤W7.heap.size:=K7.out.below.size
   have X8:=hide (((LExt.add w.heap.size L (m:=newM nm) rfl).trans hX8 hw7))
   have HGX:Hid (w.heap.size≤gx):=Nat.le_trans hw7 (own_cellsM hO8 gx rfl).1
   have OS0:=hide (own_mono hO8 (Nat.le_trans hB0 hw7))
   have REL8:=hide hrel8
   have hw8:w.heap.size≤w8.heap.size:=KW.out.below.size
   have S8a:=hide hS8
   have HM1N:=hide hm1n
   have HNE1:=hide hne1
   clear hS8 hrel8 hO8 hno8 hX8 hK8 hm1n hm1 hne1 hcl S7 K7 kr7 hN
   have A9:=hide ((Below.refl w8.heap.size w8).alloc lr (.cells #[.int .i64 rc,.string rt,.slice none 0 0] 29))
   have kb:Hid ((w8.alloc (.cells #[.int .i64 rc,.string rt,.slice none 0 0] 29)).heap[w8.heap.size]?=some (.cells #[.int .i64 rc,.string rt,.slice none 0 0] 29 (0,0))):=heap_alloc_new _ _
   have S9a:=hide (S8a.out.below A9.out lr)
   have K9:=hide (KS.of_below (X:=XN) A9.out lr S8a.out.lt)
   have kr9:Hid ((w8.alloc (.cells #[.int .i64 rc,.string rt,.slice none 0 0] 29)).heap[w.heap.size]?=some (.cells #[.int .i64 0,.string ⟨#[]⟩,.slice none 0 0] 29 (0,0))):=(A9.out.block _ (heap_lt kr8.out)).trans kr8.out
   go_upto_region 30 with fail
   generalize w8.alloc (.cells #[.int .i64 rc,.string rt,.slice none 0 0] 29)=W9 at A9 kb S9a K9 kr9 ⊢
   obtain ⟨rb,hrb⟩:∃ rb,rb=w8.heap.size:=⟨_,rfl⟩
   rw [← hrb] at kb ⊢
   have hrbw:w.heap.size≤rb:=by omega
   clear hrb A9 S8a kr8
   obtain ⟨hbl,-,-,-,-,b4,-,-,-,b8,bf⟩:=S9a.out.box.facts
   have bf4:=bf 4
   clear bf
   go_upto_region 32 with fail
   have hwr:IntKind.i64.wrap (j:Int)=(j:Int):=wrapS (by omega) (by omega)
   have hJ0:(0:Int)≤(j:Int):=by omega
   have hJ1:(j:Int)≤(cpp:Int):=by omega
   refine wp_region_N (fun V=>V.cell? ⟨hb,4,none⟩=some (.slice (some ⟨gp,0,none⟩) (j+1) cpp)) 14 (by as_aux_lemma=>kernel_rfl) ?_
   have HS:Hid (W9.drew.cell? ⟨hb,4,none⟩=some (.slice (some ⟨gp,0,none⟩) (j+1) cpp)):=b4
   iterate 10
    refine anyN_nx 0 (v:=?_) rfl rfl (by as_aux_lemma=>kernel_rfl) (fun _ _ _ h=>h) rfl ?_ HS.out ?_
    rotate_left
    ·(intro wz s0;go_simp)
     (try with_reducible rfl)
    (try simp only [Act.put,List.setIfInBounds_toArray,List.set_cons_zero,List.set_cons_succ])
   refine anyN_take (i:=10) (v:=.int .i64 (j:Int)) rfl (by as_aux_lemma=>kernel_rfl) (by as_aux_lemma=>kernel_rfl) (by as_aux_lemma=>kernel_rfl) (by as_aux_lemma=>kernel_rfl) (fun _ _ _ h=>h) rfl ?_ HS.out ?_
   ·intro wz s0
    go_simp
   (try simp only [Act.put,List.setIfInBounds_toArray,List.set_cons_zero,List.set_cons_succ])
   refine anyN_take (i:=11) (v:=.slice (some ⟨gp,0,none⟩) j cpp) rfl (by as_aux_lemma=>kernel_rfl) (by as_aux_lemma=>kernel_rfl) (by as_aux_lemma=>kernel_rfl) (by as_aux_lemma=>kernel_rfl) (fun _ _ _ h=>h) rfl ?_ HS.out ?_
   ·intro wz s0
    go_simp
   (try simp only [Act.put,List.setIfInBounds_toArray,List.set_cons_zero,List.set_cons_succ])
   refine anyN_one (i:=12) rfl (by as_aux_lemma=>kernel_rfl) (fun K hK=>?_)
   go_simp
   refine hK.out _ _ (fun _=>HS.out) ?_
   clear hK K
   (try simp only [Act.put,List.setIfInBounds_toArray,List.set_cons_zero,List.set_cons_succ])
   refine anyN_one (i:=13) rfl (by as_aux_lemma=>kernel_rfl) (fun K hK=>?_)
   go_simp
   refine hK.out _ _ (fun _=>HS.out) ?_
   clear hK K
   (try simp only [Act.put,List.setIfInBounds_toArray,List.set_cons_zero,List.set_cons_succ])
   have PP:Hid (SI w0 hb (.slice a0 S.n0 c0) (.slice a1 S.n1 c1) (W9.setCell ⟨hb,4,none⟩ (.slice (some ⟨gp,0,none⟩) j cpp)) making made1 L1 (.slice (some ⟨gm,0,none⟩) N cm1) or1 (.slice (some ⟨gp,0,none⟩) j cpp)∧KS w0.heap.size XN W9 (W9.setCell ⟨hb,4,none⟩ (.slice (some ⟨gp,0,none⟩) j cpp))):=by
    have h:=S9a.out
    rw [HMS.out] at h ⊢
    exact h.pop
   refine anyN_one (i:=14) rfl (by as_aux_lemma=>kernel_rfl) (fun K hK=>?_)
   go_simp
   refine hK.out _ _ (fun h=>absurd rfl h) ?_
   clear hK K HS b4 bf4 b8
   (try simp only [Act.put])
   refine anyN_done (by as_aux_lemma=>kernel_rfl) ?_ _
   have D6:Hid (Below (W9.setCell ⟨hb,4,none⟩ (.slice (some ⟨gp,0,none⟩) j cpp)).heap.size (W9.setCell ⟨hb,4,none⟩ (.slice (some ⟨gp,0,none⟩) j cpp)) (W9.setCell ⟨hb,4,none⟩ (.slice (some ⟨gp,0,none⟩) j cpp)).drew):=(Below.refl _ _).drew
   have S6:=hide (PP.out.1.below D6.out lr)
   have K6:=hide ((K9.out.to PP.out.2).to (KS.of_below (X:=XN) D6.out lr PP.out.1.lt))
   have kr6:Hid ((W9.setCell ⟨hb,4,none⟩ (.slice (some ⟨gp,0,none⟩) j cpp)).drew.heap[w.heap.size]?=some (.cells #[.int .i64 0,.string ⟨#[]⟩,.slice none 0 0] 29 (0,0))):=(PP.out.2.blk _ _ _ _ kr9.out (by decide) (by decide) (by decide) fun h=>h).trans kr9.out
   have kb0:Hid ((W9.setCell ⟨hb,4,none⟩ (.slice (some ⟨gp,0,none⟩) j cpp)).drew.heap[rb]?=some (.cells #[.int .i64 rc,.string rt,.slice none 0 0] 29 (0,0))):=(PP.out.2.blk _ _ _ _ kb.out (by decide) (by decide) (by decide) fun h=>h).trans kb.out
   clear PP D6 S9a K9 kr9 kb hwr hJ0 hJ1 hbl
   generalize (W9.setCell ⟨hb,4,none⟩ (.slice (some ⟨gp,0,none⟩) j cpp)).drew=W6 at S6 K6 kr6 kb0 ⊢
   have kb:=hide kb0.out
   clear kb0
   go_upto_region 33 with fail
   obtain ⟨hbl,-,-,b2,-⟩:=S6.out.box.facts
   obtain ⟨rl,r0,r1,r2,-⟩:=three_fact kb.out
   obtain ⟨hg2B,hg2l,cs2,hc2⟩:=own_cellsM S6.out.rmd gm rfl
   have HC2:=hide hc2
   have R6:Hid (W6.ownsRow w0.heap.size 146 6 (.slice (some ⟨gm,0,none⟩) N cm1) N (L1.flatMap smV)):=by
    have h:=S6.out.rmd
    rw [hL1] at h
    exact h
   have q1:W6.cell? ⟨gm,n*6+1,none⟩=some (.int .i64 m1.code):=sm_cell (by rw [hL1];exact R6.out) hLk.out 1 (by omega) rfl
   have q2:W6.cell? ⟨gm,n*6+1+1,none⟩=some (.string m1.text):=sm_cell (by rw [hL1];exact R6.out) hLk.out 2 (by omega) rfl
   have q3:W6.cell? ⟨gm,n*6+1+2,none⟩=some (.slice none 0 0):=sm_cell (by rw [hL1];exact R6.out) hLk.out 3 (by omega) rfl
   have qf:∀ j,W6.frozen? ⟨gm,j,none⟩=false:=fun j=>by simp [World.frozen?,hc2]
   have qf1:=qf (n*6+1)
   have qf2:=qf (n*6+1+1)
   have qf3:=qf (n*6+1+2)
   clear qf hc2
   have hIn:(n:Int)<(N:Int):=by omega
   have hg2h:gm≠hb:=by
    intro e
    have h:=HC2.out
    rw [e] at h
    exact absurd (two_types h S6.out.box) (by decide)
   have hg2r:gm≠rb:=by
    intro e
    have h:=HC2.out
    rw [e] at h
    exact absurd (two_types h kb.out) (by decide)
   refine wp_region_held_drew (S:=fun V=>V.cell? ⟨hb,2,none⟩=some (.slice (some ⟨gm,0,none⟩) N cm1)∧V.cell? ⟨rb,0,none⟩=some (.int .i64 rc)∧V.cell? ⟨rb,1,none⟩=some (.string rt)∧V.cell? ⟨rb,2,none⟩=some (.slice none 0 0)) (by as_aux_lemma=>kernel_rfl) ⟨b2,r0,r1,r2⟩ (fun hS=>?_)
   have HS:=hide hS
   clear hS
   iterate 3
    refine anyS_nx 0 (v:=?_) rfl rfl (by as_aux_lemma=>kernel_rfl) (fun _ _ _ h=>h) rfl ?_ HS.out ?_
    rotate_left
    ·(intro wz hSw;obtain ⟨s0,s1,s2,s3⟩:=hSw;go_simp)
     (try with_reducible rfl)
    (try simp only [Act.put,List.setIfInBounds_toArray,List.set_cons_zero,List.set_cons_succ])
   refine anyS_nx 4 (v:=?_) rfl rfl (by as_aux_lemma=>kernel_rfl) (fun _ _ _ h=>h) rfl ?_ HS.out ?_
   rotate_left
   ·(intro wz hSw;obtain ⟨s0,s1,s2,s3⟩:=hSw;go_simp)
    (try with_reducible rfl)
   (try simp only [Act.put,List.setIfInBounds_toArray,List.set_cons_zero,List.set_cons_succ])
   refine anyS_nx 3 (v:=?_) rfl rfl (by as_aux_lemma=>kernel_rfl) (fun _ _ _ h=>h) rfl ?_ HS.out ?_
   rotate_left
   ·(intro wz hSw;obtain ⟨s0,s1,s2,s3⟩:=hSw;go_simp)
    (try with_reducible rfl)
   (try simp only [Act.put,List.setIfInBounds_toArray,List.set_cons_zero,List.set_cons_succ])
   iterate 3
    refine anyS_nx 5 (v:=?_) rfl rfl (by as_aux_lemma=>kernel_rfl) (fun _ _ _ h=>h) rfl ?_ HS.out ?_
    rotate_left
    ·(intro wz hSw;obtain ⟨s0,s1,s2,s3⟩:=hSw;go_simp)
     (try with_reducible rfl)
    (try simp only [Act.put,List.setIfInBounds_toArray,List.set_cons_zero,List.set_cons_succ])
   have TL:=hide (S6.out.told hL1 hLk.out HD1.out rc rt)
   have HS8:Hid ((((W6.setCell ⟨gm,n*6+1,none⟩ (.int .i64 rc)).setCell ⟨gm,n*6+1+1,none⟩ (.string rt)).setCell ⟨gm,n*6+1+2,none⟩ (.slice none 0 0)).drew.cell? ⟨hb,2,none⟩=some (.slice (some ⟨gm,0,none⟩) N cm1)∧(((W6.setCell ⟨gm,n*6+1,none⟩ (.int .i64 rc)).setCell ⟨gm,n*6+1+1,none⟩ (.string rt)).setCell ⟨gm,n*6+1+2,none⟩ (.slice none 0 0)).drew.cell? ⟨rb,0,none⟩=some (.int .i64 rc)∧(((W6.setCell ⟨gm,n*6+1,none⟩ (.int .i64 rc)).setCell ⟨gm,n*6+1+1,none⟩ (.string rt)).setCell ⟨gm,n*6+1+2,none⟩ (.slice none 0 0)).drew.cell? ⟨rb,1,none⟩=some (.string rt)∧(((W6.setCell ⟨gm,n*6+1,none⟩ (.int .i64 rc)).setCell ⟨gm,n*6+1+1,none⟩ (.string rt)).setCell ⟨gm,n*6+1+2,none⟩ (.slice none 0 0)).drew.cell? ⟨rb,2,none⟩=some (.slice none 0 0)) :=
    ⟨(cell_far _ _ _ _ hg2h).trans ((cell_far _ _ _ _ hg2h).trans ((cell_far _ _ _ _ hg2h).trans b2)),(cell_far _ _ _ _ hg2r).trans ((cell_far _ _ _ _ hg2r).trans ((cell_far _ _ _ _ hg2r).trans r0)),(cell_far _ _ _ _ hg2r).trans ((cell_far _ _ _ _ hg2r).trans ((cell_far _ _ _ _ hg2r).trans r1)),(cell_far _ _ _ _ hg2r).trans ((cell_far _ _ _ _ hg2r).trans ((cell_far _ _ _ _ hg2r).trans r2))⟩
   refine anyS_one (i:=8) rfl (by as_aux_lemma=>kernel_rfl) (fun K hK=>?_)
   go_simp
   refine hK.out _ _ HS8.out ?_
   clear hK K HS q1 q2 q3 qf1 qf2 qf3 b2 r0 r1 r2 rl
   (try simp only [Act.put])
   refine wpAnyH_done (by as_aux_lemma=>kernel_rfl) ?_ _
   have D7:Hid (Below (((W6.setCell ⟨gm,n*6+1,none⟩ (.int .i64 rc)).setCell ⟨gm,n*6+1+1,none⟩ (.string rt)).setCell ⟨gm,n*6+1+2,none⟩ (.slice none 0 0)).heap.size (((W6.setCell ⟨gm,n*6+1,none⟩ (.int .i64 rc)).setCell ⟨gm,n*6+1+1,none⟩ (.string rt)).setCell ⟨gm,n*6+1+2,none⟩ (.slice none 0 0)) (((W6.setCell ⟨gm,n*6+1,none⟩ (.int .i64 rc)).setCell ⟨gm,n*6+1+1,none⟩ (.string rt)).setCell ⟨gm,n*6+1+2,none⟩ (.slice none 0 0)).drew):=(Below.refl _ _).drew
   have S7:=hide (TL.out.1.below D7.out lr)
   have K7:=hide (K6.out.to (TL.out.2.1.to (KS.of_below (X:=XN) D7.out lr TL.out.1.lt)))
   have hk7:=TL.out.2.2.1
   have hl7:=TL.out.2.2.2
   have kr7:Hid ((((W6.setCell ⟨gm,n*6+1,none⟩ (.int .i64 rc)).setCell ⟨gm,n*6+1+1,none⟩ (.string rt)).setCell ⟨gm,n*6+1+2,none⟩ (.slice none 0 0)).drew.heap[w.heap.size]?=some (.cells #[.int .i64 0,.string ⟨#[]⟩,.slice none 0 0] 29 (0,0))):=by
    have h0:=(TL.out.2.1.blk _ _ _ _ kr6.out (by decide) (by decide) (by decide) fun h=>h).trans kr6.out
    exact h0
   have kb7:Hid ((((W6.setCell ⟨gm,n*6+1,none⟩ (.int .i64 rc)).setCell ⟨gm,n*6+1+1,none⟩ (.string rt)).setCell ⟨gm,n*6+1+2,none⟩ (.slice none 0 0)).drew.heap[rb]?=some (.cells #[.int .i64 rc,.string rt,.slice none 0 0] 29 (0,0))):=by
    have h0:=(TL.out.2.1.blk _ _ _ _ kb.out (by decide) (by decide) (by decide) fun h=>h).trans kb.out
    exact h0
   have HK7:=hide hk7
   have HL7:=hide hl7
   clear TL HS8 hk7 hl7 kr6 kb K6 S6 R6 HC2 D7
   generalize (((W6.setCell ⟨gm,n*6+1,none⟩ (.int .i64 rc)).setCell ⟨gm,n*6+1+1,none⟩ (.string rt)).setCell ⟨gm,n*6+1+2,none⟩ (.slice none 0 0)).drew=W7 at S7 K7 kr7 kb7 ⊢
   have OS:=hide OS0.out
   obtain ⟨hbl,-,-,b2,-⟩:=S7.out.box.facts
   obtain ⟨hg2B',hg2l',cs7,hc7⟩:=own_cellsM S7.out.rmd gm rfl
   have q4:W7.cell? ⟨gm,n*6+4,none⟩=some m1.sv:=sm_cell (by have h:=S7.out.rmd;rw [HL7.out] at h ⊢;exact h) HK7.out 4 (by omega) rfl
   have qf4:W7.frozen? ⟨gm,n*6+4,none⟩=false:=by simp [World.frozen?,hc7]
   have TD:=hide (S7.out.upd' HL7.out HK7.out (j:=4) (by omega) (u:=.slice (some ⟨gx,0,none⟩) ln cx) (m':=⟨m1.name,rc,rt,ls,.slice (some ⟨gx,0,none⟩) ln cx,false⟩) rfl (fun h=>by cases h))
   have kr7b:Hid ((W7.setCell ⟨gm,n*6+4,none⟩ (.slice (some ⟨gx,0,none⟩) ln cx)).heap[w.heap.size]?=some (.cells #[.int .i64 0,.string ⟨#[]⟩,.slice none 0 0] 29 (0,0))):=(TD.out.2.1.blk _ _ _ _ kr7.out (by decide) (by decide) (by decide) fun h=>h).trans kr7.out
   have kb7b:Hid ((W7.setCell ⟨gm,n*6+4,none⟩ (.slice (some ⟨gx,0,none⟩) ln cx)).heap[rb]?=some (.cells #[.int .i64 rc,.string rt,.slice none 0 0] 29 (0,0))):=(TD.out.2.1.blk _ _ _ _ kb7.out (by decide) (by decide) (by decide) fun h=>h).trans kb7.out
   have S7b:=hide TD.out.1
   have K7b:=hide (K7.out.to TD.out.2.1)
   have HK7b:=hide TD.out.2.2.1
   have HL7b:=hide TD.out.2.2.2
   clear hc7
   go_upto_region 35 with fail
   clear b2 q4 qf4 TD S7 K7 kr7 kb7 HK7 HL7
   generalize W7.setCell ⟨gm,n*6+4,none⟩ (.slice (some ⟨gx,0,none⟩) ln cx)=W7b at S7b K7b kr7b kb7b ⊢
   have OSb:=hide (own_ks OS.out K7b.out)
   obtain ⟨hbl,-,-,b2,-⟩:=S7b.out.box.facts
   obtain ⟨hg2B',hg2l',cs7,hc7⟩:=own_cellsM S7b.out.rmd gm rfl
   have q5:W7b.cell? ⟨gm,n*6+5,none⟩=some (.bool false):=sm_cell (by have h:=S7b.out.rmd;rw [HL7b.out] at h ⊢;exact h) HK7b.out 5 (by omega) rfl
   have qf5:W7b.frozen? ⟨gm,n*6+5,none⟩=false:=by simp [World.frozen?,hc7]
   have TD:=hide (S7b.out.upd' HL7b.out HK7b.out (j:=5) (by omega) (u:=.bool true) (m':=⟨m1.name,rc,rt,ls,.slice (some ⟨gx,0,none⟩) ln cx,true⟩) rfl (fun _=>(by rw [← HLNE.out];exact OSb.out)))
   have kr8:Hid ((W7b.setCell ⟨gm,n*6+5,none⟩ (.bool true)).heap[w.heap.size]?=some (.cells #[.int .i64 0,.string ⟨#[]⟩,.slice none 0 0] 29 (0,0))):=(TD.out.2.1.blk _ _ _ _ kr7b.out (by decide) (by decide) (by decide) fun h=>h).trans kr7b.out
   have kb8:Hid ((W7b.setCell ⟨gm,n*6+5,none⟩ (.bool true)).heap[rb]?=some (.cells #[.int .i64 rc,.string rt,.slice none 0 0] 29 (0,0))):=(TD.out.2.1.blk _ _ _ _ kb7b.out (by decide) (by decide) (by decide) fun h=>h).trans kb7b.out
   have S8:=hide TD.out.1
   have K8:=hide (K7b.out.to TD.out.2.1)
   clear hc7
   go_upto_region 36 with fail
   clear b2 q5 qf5 TD S7b K7b kr7b kb7b
   generalize W7b.setCell ⟨gm,n*6+5,none⟩ (.bool true)=W8 at S8 K8 kr8 kb8 ⊢
   obtain ⟨ao,co,rfl⟩:=sh_slice S8.out.ror
   obtain ⟨q,hq⟩:∃ q,q=made1.length:=⟨_,rfl⟩
   have HQ:=hide hq
   rw [← hq] at hmd1
   clear hq
   obtain ⟨hbl,-,-,-,b3,-⟩:=S8.out.box.facts
   rw [← HQ.out] at b3
   have A9:=hide ((Below.refl W8.heap.size W8).alloc lr (.cells #[.string nm] 9))
   have S9:=hide (S8.out.below A9.out lr)
   have RO:Hid ((W8.alloc (.cells #[.string nm] 9)).ownsRow w0.heap.size 9 1 (.slice ao q co) q (strV (made1.map (·.name)))):=by
    have h:=S9.out.ror
    rw [← HQ.out] at h
    exact h
   have hbs9:w0.heap.size≤(W8.alloc (.cells #[.string nm] 9)).heap.size:=S9.out.lt
   have HG:Hid (∀ w2:World,(W8.alloc (.cells #[.string nm] 9)).grownBy w2 (Value.slice ao q co).ownBlock→w2.heap[hb]?=(W8.alloc (.cells #[.string nm] 9)).heap[hb]?∧w2.heap[w.heap.size]?=(W8.alloc (.cells #[.string nm] 9)).heap[w.heap.size]?∧w2.heap[rb]?=(W8.alloc (.cells #[.string nm] 9)).heap[rb]?):=fun w2 hg=>by
    have hne:∀ (i:Nat) (cs:Array Value) (t:TypeId) (fz:Nat × Nat),(W8.alloc (.cells #[.string nm] 9)).heap[i]?=some (Obj.cells cs t fz)→t≠9→w2.heap[i]?=(W8.alloc (.cells #[.string nm] 9)).heap[i]?:=fun i cs t fz hi ht=>hg.block i (heap_lt hi) fun e=>by
     obtain ⟨_,_,cs2,hc⟩:=own_cellsM RO.out i e.symm
     exact ht (two_types hi hc)
    exact ⟨hne _ _ _ _ S9.out.box (by decide),hne _ _ _ _ ((A9.out.block _ (heap_lt kr8.out)).trans kr8.out) (by decide),hne _ _ _ _ ((A9.out.block _ (heap_lt kb8.out)).trans kb8.out) (by decide)⟩
   have KRR:Hid ((W8.alloc (.cells #[.string nm] 9)).heap[w.heap.size]?=some (.cells #[.int .i64 0,.string ⟨#[]⟩,.slice none 0 0] 29 (0,0))):=(A9.out.block _ (heap_lt kr8.out)).trans kr8.out
   have KBB:Hid ((W8.alloc (.cells #[.string nm] 9)).heap[rb]?=some (.cells #[.int .i64 rc,.string rt,.slice none 0 0] 29 (0,0))):=(A9.out.block _ (heap_lt kb8.out)).trans kb8.out
   have hbw:¬ hb=w.heap.size:=fun e=>by have h:=S8.out.box;unfold ShBox at h;rw [e] at h;exact absurd (two_types h kr8.out) (by decide)
   have hbw':¬ w.heap.size=hb:=fun e=>hbw e.symm
   have hbr:¬ hb=rb:=fun e=>by have h:=S8.out.box;unfold ShBox at h;rw [e] at h;exact absurd (two_types h kb8.out) (by decide)
   have hbr':¬ rb=hb:=fun e=>hbr e.symm
   go_wp2_with (first
    | (at_builtin;refine wpList_append_at _ rfl (.tmp 235) (.tmp 237) 27 rfl w0.heap.size 9 i1 (.string ⟨#[]⟩) 1 16 Tryz.underlying27 hi1 hy0 hy1 hy2 rfl (by decide) (.slice ao q co) q (strV (made1.map (·.name))) (by simp [Act.eval]) RO.out ⟨W8.heap.size,0,none⟩ 1 1 [.string nm] (by simp [Act.eval]) rfl (one_new2 W8 _ _) (by simp [Value.oneCell']) (by unfold maxLen;omega) (by omega) hbs9 ?_;intro v9 w9 hown hgrow hat;have O9:=hide hown;have G9:=hide hgrow;have AT9:=hide hat;have hb9:=hide (HG.out w9 hgrow);obtain ⟨g9,c9,cu9,rfl,hq9⟩:=hown.2.resolve_left (fun h=>by omega);clear hq9 hown hgrow hat;obtain ⟨hbl9,-,-,-,f3,-,-,-,-,-,ff⟩:=(ShBox.blk S9.out.box hb9.out.1).facts;have ff3:=ff 3;obtain ⟨rl,r0,r1,r2,rf⟩:=three_fact (hb9.out.2.1.trans KRR.out);have rf0:=rf 0;have rf1:=rf 1;have rf2:=rf 2;obtain ⟨pl,p0,p1,p2,pf⟩:=three_fact (hb9.out.2.2.trans KBB.out);clear ff rf pf)
    | fail)
   have SXX:=hide (S9.out.ord (x:=⟨nm,3,rc,rt,tg,ls⟩) (w':=w9) (v:=.slice (some ⟨g9,0,none⟩) (q+1) c9) (by rw [← HQ.out];exact G9.out) (by rw [← HQ.out];exact O9.out) (by rw [← HQ.out];exact AT9.out))
   refine bodyPost_ret (v:=.agg #[.int .i64 rc,.string rt,.slice none 0 0]) (by simp [results,Tryz.results90,go_sem,r0,r1,r2]) rfl ?_
   have krF:=(Below.heap_setCell w9 ⟨hb,3,none⟩ (.slice (some ⟨g9,0,none⟩) (q+1) c9) w.heap.size hbw').trans (hb9.out.2.1.trans KRR.out)
   rw [HFIN.out]
   refine ⟨L1.set n ⟨m1.name,rc,rt,ls,.slice (some ⟨gx,0,none⟩) ln cx,true⟩,.slice (some ⟨gm,0,none⟩) N cm1,.slice (some ⟨g9,0,none⟩) (q+1) c9,.slice (some ⟨gp,0,none⟩) j cpp,rfl,?_,rel_end REL8.out hLk.out HM1N.out HM1N.out rfl rfl rfl rfl rfl HNE1.out HI.out,X8.out.set hLk.out rfl (fun k e=>by cases e;exact HGX.out),?_⟩
   ·have x0:=SXX.out.1
    rw [List.set_set,List.set_set] at x0
    replace x0:=x0.setOff krF ⟨by decide,by decide,by decide,by decide⟩ hB0 0 (.int .i64 rc)
    have y0:=heap_setCell_at krF (j:=0) (.int .i64 rc)
    have x1:=x0.setOff y0 ⟨by decide,by decide,by decide,by decide⟩ hB0 1 (.string rt)
    exact x1.setOff (heap_setCell_at y0 (j:=1) (.string rt)) ⟨by decide,by decide,by decide,by decide⟩ hB0 2 (.slice none 0 0)
   ·have k0:=((KW.out.to K8.out).to (KS.of_below (X:=XN) A9.out lr S8.out.lt)).to SXX.out.2
    exact ((k0.fresh lr hB0 0 _).fresh lr hB0 1 _).fresh lr hB0 2 _
  ·obtain ⟨a,k,sv,rfl,⟨s0,s1,md8,or8,st8,hbox,hrow8⟩,hK8⟩:=hpost
   have A9:=hide ((Below.refl w8.heap.size w8).alloc lr (.cells #[.int .i64 6,.string ⟨#[]⟩,.slice a c.length k] 29))
   have K8:=hide ((K7.out.to hK8).to (KS.of_below (X:=XN) A9.out lr (Nat.le_trans hB0 (K7.out.to hK8).below.size)))
   have HBX:=hide (ShBox.blk hbox (A9.out.block _ (heap_lt hbox)))
   have HR8:=hide (own_below hrow8 A9.out lr)
   have kr8:Hid ((w8.alloc (.cells #[.int .i64 6,.string ⟨#[]⟩,.slice a c.length k] 29)).heap[w.heap.size]?=some (.cells #[.int .i64 0,.string ⟨#[]⟩,.slice none 0 0] 29 (0,0))):=by
    have h0:=(hK8.blk _ _ _ _ kr7.out (by decide) (by decide) (by decide) fun h=>h).trans kr7.out
    exact (A9.out.block _ (heap_lt h0)).trans h0
   clear hK8 hbox hrow8
   unfold resV stopC
   dsimp only
   go_upto_region 30 with fail
   clear A9
   generalize w8.alloc (.cells #[.int .i64 6,.string ⟨#[]⟩,.slice a c.length k] 29)=W9 at K8 HBX HR8 kr8 ⊢
   obtain ⟨hbl,-,-,-,-,-,b5,b6,b7,b8,-⟩:=HBX.out.facts
   have hbw:¬ hb=w.heap.size:=fun e=>by have h:=HBX.out;unfold ShBox at h;rw [e] at h;exact absurd (two_types h kr8.out) (by decide)
   have hbw':¬ w.heap.size=hb:=fun e=>hbw e.symm
   obtain ⟨rl,r0,r1,r2,rf⟩:=three_fact kr8.out
   have rf0:=rf 0
   have rf1:=rf 1
   have rf2:=rf 2
   clear rf
   simp only [stopC] at b5 b6 b7
   go_wp2_with fail
   refine bodyPost_ret (v:=.agg #[.int .i64 6,.string ⟨#[]⟩,.slice a c.length k]) (by simp [results,Tryz.results90,go_sem,r0,r1,r2]) rfl ?_
   have bxF:=(Below.heap_setCell ((W9.setCell ⟨w.heap.size,0,none⟩ (.int .i64 6)).setCell ⟨w.heap.size,1,none⟩ (.string ⟨#[]⟩)) ⟨w.heap.size,2,none⟩ (.slice a c.length k) hb hbw).trans ((Below.heap_setCell (W9.setCell ⟨w.heap.size,0,none⟩ (.int .i64 6)) ⟨w.heap.size,1,none⟩ (.string ⟨#[]⟩) hb hbw).trans ((Below.heap_setCell W9 ⟨w.heap.size,0,none⟩ (.int .i64 6) hb hbw).trans HBX.out))
   have hnw:((.slice a c.length k:Value)).ownBlock≠some w.heap.size:=fun e=>by
    obtain ⟨_,_,cs2,hc⟩:=own_cellsM HR8.out w.heap.size e
    exact absurd (two_types kr8.out hc) (by decide)
   refine ⟨a,k,rfl,⟨_,_,_,_,_,bxF,?_⟩,?_⟩
   ·exact own_other (own_other (own_other HR8.out hnw _ _) hnw _ _) hnw _ _
   ·exact ((K8.out.fresh lr hB0 0 _).fresh lr hB0 1 _).fresh lr hB0 2 _
  ·obtain ⟨sv,rfl,⟨s0,s1,md8,or8,st8,hbox,hrow8⟩,hK8⟩:=hpost
   have A9:=hide ((Below.refl w8.heap.size w8).alloc lr (.cells #[.int .i64 7,.string d,.slice none 0 0] 29))
   have K8:=hide ((K7.out.to hK8).to (KS.of_below (X:=XN) A9.out lr (Nat.le_trans hB0 (K7.out.to hK8).below.size)))
   have HBX:=hide (ShBox.blk hbox (A9.out.block _ (heap_lt hbox)))
   have HR8:=hide (own_below hrow8 A9.out lr)
   have kr8:Hid ((w8.alloc (.cells #[.int .i64 7,.string d,.slice none 0 0] 29)).heap[w.heap.size]?=some (.cells #[.int .i64 0,.string ⟨#[]⟩,.slice none 0 0] 29 (0,0))):=by
    have h0:=(hK8.blk _ _ _ _ kr7.out (by decide) (by decide) (by decide) fun h=>h).trans kr7.out
    exact (A9.out.block _ (heap_lt h0)).trans h0
   clear hK8 hbox hrow8
   unfold resV stopD
   dsimp only
   go_upto_region 30 with fail
   clear A9
   generalize w8.alloc (.cells #[.int .i64 7,.string d,.slice none 0 0] 29)=W9 at K8 HBX HR8 kr8 ⊢
   obtain ⟨hbl,-,-,-,-,-,b5,b6,b7,b8,-⟩:=HBX.out.facts
   have hbw:¬ hb=w.heap.size:=fun e=>by have h:=HBX.out;unfold ShBox at h;rw [e] at h;exact absurd (two_types h kr8.out) (by decide)
   have hbw':¬ w.heap.size=hb:=fun e=>hbw e.symm
   obtain ⟨rl,r0,r1,r2,rf⟩:=three_fact kr8.out
   have rf0:=rf 0
   have rf1:=rf 1
   have rf2:=rf 2
   clear rf
   simp only [stopD] at b5 b6 b7
   go_wp2_with fail
   refine bodyPost_ret (v:=.agg #[.int .i64 7,.string d,.slice none 0 0]) (by simp [results,Tryz.results90,go_sem,r0,r1,r2]) rfl ?_
   have bxF:=(Below.heap_setCell ((W9.setCell ⟨w.heap.size,0,none⟩ (.int .i64 7)).setCell ⟨w.heap.size,1,none⟩ (.string d)) ⟨w.heap.size,2,none⟩ (.slice none 0 0) hb hbw).trans ((Below.heap_setCell (W9.setCell ⟨w.heap.size,0,none⟩ (.int .i64 7)) ⟨w.heap.size,1,none⟩ (.string d) hb hbw).trans ((Below.heap_setCell W9 ⟨w.heap.size,0,none⟩ (.int .i64 7) hb hbw).trans HBX.out))
   have hnw:((.slice none 0 0:Value)).ownBlock≠some w.heap.size:=fun e=>by
    obtain ⟨_,_,cs2,hc⟩:=own_cellsM HR8.out w.heap.size e
    exact absurd (two_types kr8.out hc) (by decide)
   refine ⟨rfl,⟨_,_,_,_,_,bxF,?_⟩,?_⟩
   ·exact own_other (own_other (own_other HR8.out hnw _ _) hnw _ _) hnw _ _
   ·exact ((K8.out.fresh lr hB0 0 _).fresh lr hB0 1 _).fresh lr hB0 2 _
end
section
variable {w0:World}{S:Spc}{a0 a1:Option Addr}{c0 c1 hb:Nat}
theorem told_rel {L:List SM}{making:List ByteArray}{made:List Ent}{nm:ByteArray}(h:SRel L making made)(hne:∀ m∈L,m.name≠nm)(h0:entOf made nm=none)(h1:atL making nm=none){m':SM}{x:Ent}(hm:m'.name=nm)(hd:m'.done=true)(hx:x.name=nm)(hc:m'.code=(resE x).code)(ht:m'.text=(resE x).text)(hs:m'.seen=x.looks)(hv:m'.sv=.slice none 0 0)(n:Nat) :
  SRel ((L++[newM nm]).set L.length m') making (made++[x])∧LExt n L ((L++[newM nm]).set L.length m'):=by
 have hk:(L++[newM nm])[L.length]?=some (newM nm):=by
  rw [List.getElem?_append_right lr,Nat.sub_self]
  rfl
 refine ⟨rel_end (rel_begin h hne (m:=newM nm) rfl rfl) hk rfl hm hx hd hc ht hs (entOf_none h0) h1,(LExt.add n L (m:=newM nm) rfl).set hk hm fun j e=>?_⟩
 rw [hv] at e
 cases e
theorem make_all (C:SCtx w0 S a0 a1):∀ n,MakeOk w0 S hb (.slice a0 S.n0 c0) (.slice a1 S.n1 c1) n:=by
 have key:∀ n,(∀ m,n=m+1→MakeOk w0 S hb (.slice a0 S.n0 c0) (.slice a1 S.n1 c1) m)→MakeOk w0 S hb (.slice a0 S.n0 c0) (.slice a1 S.n1 c1) n:=by
  intro n hind making made L md or st w nm hlen h hrel hp hroom hmt hn
  have hmade:made.length≤50000:=by unfold roomS at hroom;omega
  have hLn:L.length≤100000:=by have:=hrel.len;omega
  rw [liesP_eq]
  unfold liesB
  cases h0:entOf made nm with
  | some e =>
   obtain ⟨k,m,f1,f2,f3,f4,f5⟩:=rel_hit hrel h0
   refine (make_hit w nm h hLn k m f1 f2 f3).mono ?_
   rintro r w' ⟨rfl,hs,hk⟩
   exact ⟨L,md,or,st,by rw [f4,f5],hs,hrel,LExt.refl _ _,hk⟩
  | none =>
   cases h1:atL making nm with
   | some i =>
    obtain ⟨k,m,f1,f2,f3,f4⟩:=rel_mkg hrel h1
    have ht:=hmt nm f4
    cases h2:atI (nm1 S.f1) S.n1 nm with
    | none=>rw [h2] at ht;cases ht
    | some tg=>exact make_circle C w nm h hLn (by omega) k m f1 f2 f3 tg i h2 h1
   | none =>
    obtain ⟨hf,hne⟩:=rel_no hrel h0 h1
    dsimp only
    unfold freshB
    cases h2:atI (nm0 S.f0) S.n0 nm with
    | some i =>
     refine (make_src C w nm h hLn (by omega) hf i h2 (src_not_tgt C.ok h2)).mono ?_
     rintro r w' ⟨md',or',rfl,hs,hk⟩
     have hr:=told_rel hrel hne h0 h1 (m':=⟨nm,0,(S.f0 i).text,[],.slice none 0 0,true⟩) (x:=⟨nm,1,0,(S.f0 i).text,0,[]⟩) rfl rfl rfl rfl rfl rfl rfl w.heap.size
     exact ⟨_,md',or',st,rfl,hs,hr.1,hr.2,hk⟩
    | none =>
     cases h3:atI (nm1 S.f1) S.n1 nm with
     | some t =>
      cases n with
      | zero=>exact make_deep C w nm h hLn (by omega) hf h1 t h3
      | succ m=>exact make_tgt C m (hind m rfl) w nm hlen h hrel hp hroom hmt h0 h1 t h3
     | none =>
      refine (make_none C w nm h hLn (by omega) hf h2 h3).mono ?_
      rintro r w' ⟨md',or',rfl,hs,hk⟩
      have hr:=told_rel hrel hne h0 h1 (m':=⟨nm,4,nm,[],.slice none 0 0,true⟩) (x:=⟨nm,2,0,⟨#[]⟩,0,[]⟩) rfl rfl rfl rfl rfl rfl rfl w.heap.size
      exact ⟨_,md',or',st,rfl,hs,hr.1,hr.2,hk⟩
 intro n
 induction n with
 | zero=>exact key 0 fun m e=>by omega
 | succ n ih=>exact key (n+1) fun m e=>by cases e;exact ih
end
end Go.Proofs.YtfnbojfnelfnkaaGreatDoor.Vp
