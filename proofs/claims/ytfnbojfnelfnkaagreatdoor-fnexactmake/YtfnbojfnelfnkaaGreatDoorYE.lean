import Derived.Test.YtfnbojfnelfnkaaGreatDoorYD
import Derived.Deep.LoopGhost
set_option maxRecDepth 1000000
set_option maxHeartbeats 8000000
namespace Go.Proofs.YtfnbojfnelfnkaaGreatDoor.Vp
open Go.RowKit Go.Proofs.YtfnbojfnelfnkaaGreatDoor.Ca
def ContOk (S:Spc)(tg:Nat)(ys:List Reply)(H:Halt):Prop:=∀ (y:Nat→Reply) (n:Nat),ys.length≤n→(∀ i,i<ys.length→y i=yL ys i)→contP (S.f1 tg).act (S.f1 tg).actN y n H=nextP (S.f1 tg).act (S.f1 tg).actN y n 2001 0 0 0 []
theorem ContOk.turn {S:Spc}{tg:Nat}{ys:List Reply}{H:Halt}{m:Mst}(h:ContOk S tg ys H)(hS:Stands m H)(hL:looksOf ys.length H):m.t=turnY S tg ys:=by
 rw [← stands_turn (f:=(S.f1 tg).act) (cnt:=(S.f1 tg).actN) (y:=yL ys) hS hL]
 exact h (yL ys) ys.length lr fun _ _=>rfl
theorem ContOk.step {S:Spc}{tg:Nat}{ys:List Reply}{a:Bool}{nm:ByteArray}{s:List ByteArray}{p st:Nat}{H':Halt}{r:Reply}(h:ContOk S tg ys (.inr (a,nm,s,p,st,(ys.length+1))))(hc:∀ y n,ys.length+1≤n→y (ys.length+1 - 1)=r→contP (S.f1 tg).act (S.f1 tg).actN y n (.inr (a,nm,s,p,st,(ys.length+1)))=contP (S.f1 tg).act (S.f1 tg).actN y n H'):ContOk S tg (ys++[r]) H':=by
 intro y n hn hy
 rw [List.length_append,List.length_singleton] at hn hy
 rw [← hc y n hn (by rw [Nat.add_sub_cancel,hy _ (Nat.lt_succ_self _),yL_at])]
 exact h y n (by omega) fun i hi=>by rw [hy i (by omega),yL_old ys r hi]
structure RI (w0:World)(S:Spc)(mb mp:Nat)(s0 s1:Value)(w:World)(n:Nat)(making:List ByteArray)(eb tg:Nat)(nm:ByteArray)(b:Nat)(cv:Value)(tb:Nat)(made0:List Ent)(G0:ByteArray→Nat)(V0:ByteArray→Value)(R0:Out (Turn × List Lk))(wr:World)(ys:List Reply)(ls:List Lk)(made:List Ent)(G:ByteArray→Nat)(V:ByteArray→Value)(mk md v:Value)(m:Mst)(H:Halt):Prop where
 mi:MI w0 S mb mp s0 s1 wr making making made G V mk md
 pg:PG S making made
 rg:RG S made ys ls
 room:roomN S making made (201 - ys.length)
 eu:EU w0 S wr eb nm tg G ls v made V
 ma:MAt wr b cv m
 ty:∃ cs,wr.heap[b]?=some (.cells cs 239 (0,0))
 tb:TB wr tb m.t
 st:Stands m H
 lk:looksOf ys.length H
 co:ContOk S tg ys H
 run:runL S (liesP S n making) tg (201 - ys.length) made ys ls=R0
 le:ys.length≤200
 ext:Ext w.heap.size made0 made G0 G V0 V
 kx:KX w0.heap.size (fun i=>i=eb) w wr
 vn:∀ k,v.ownBlock=some k→w.heap.size≤k
def RunPost (w0:World)(S:Spc)(mb mp:Nat)(s0 s1:Value)(making:List ByteArray)(made:List Ent)(G:ByteArray→Nat)(V:ByteArray→Value)(w:World)(eb tg:Nat)(nm:ByteArray)(e:Ending)(w':World):Out (Turn × List Lk)→Prop
 | .inl (made',x)=>e=.returned (.tuple #[])∧∃ G' V' mk' md' v',MI w0 S mb mp s0 s1 w' making making made' G' V' mk' md'∧EntAt w0 S G' w' eb v' ⟨nm,3,x.1.code,x.1.text,tg,x.2⟩∧(∀ y∈made',G' y.name≠eb)∧(∀ k,v'.ownBlock=some k→w.heap.size≤k)∧Ext w.heap.size made made' G G' V V'∧KX w0.heap.size (fun i=>i=eb) w w'
 | .inr (.inl c)=>∃ v,e=.panicked [{ v:=.iface 184 (.agg #[v]),recovered:=false }]∧w'.ownsRow w0.heap.size 9 1 v c.length (strV c)∧Below w0.heap.size w w'
 | .inr (.inr d)=>e=.panicked [{ v:=.iface 186 (.agg #[.string d]),recovered:=false }]∧Below w0.heap.size w w'
section
variable {w0:World}{S:Spc}{a0 a1:Option Addr}{c0 c1 mb mp:Nat}{making:List ByteArray}
theorem mrun_any (C:Ctx w0 S a0 c0 a1 c1)(n:Nat)(HL:LiesOk w0 S mb mp (.slice a0 S.n0 c0) (.slice a1 S.n1 c1) n)(made0:List Ent)(G0:ByteArray→Nat)(V0:ByteArray→Value)(mk0 md0:Value)(w:World)(eb tg:Nat)(nm:ByteArray)(hlen:making.length+n=60)(h:MI w0 S mb mp (.slice a0 S.n0 c0) (.slice a1 S.n1 c1) w making making made0 G0 V0 mk0 md0)(hp:PG S making made0)(hroom:roomN S making made0 201)(htg:tg<S.n1)(hu:EU w0 S w eb nm tg G0 [] (.slice none 0 0) made0 V0) :
  Calls Tryz.prog 165 #[.pointer (some ⟨mb,0,none⟩),.pointer (some ⟨eb,0,none⟩)] w fun e w'=>RunPost w0 S mb mp (.slice a0 S.n0 c0) (.slice a1 S.n1 c1) making made0 G0 V0 w eb tg nm e w' (runL S (liesP S n making) tg 201 made0 [] []):=by
 obtain ⟨hok,hc1,hc2⟩:=valid_parts (C.ok.act tg htg)
 obtain ⟨⟨av,cap,hbl,hsl⟩,hge,hrow0,hfree0,-,-⟩:=hu
 obtain ⟨pb,po,rfl,hri⟩:∃ pb po,av=some ⟨pb,po,none⟩∧RowIns w0 pb po (S.f1 tg).actN (S.f1 tg).act:=by
  rcases hsl with h | ⟨b,off,e,hr⟩
  ·omega
  ·exact ⟨b,off,e,hr⟩
 obtain ⟨hel,-,-,-,-,e4,-,-,-,-⟩:=hbl.facts
 have HU:Hid (EU w0 S w eb nm tg G0 [] (.slice none 0 0) made0 V0):=⟨⟨_,_,hbl,hsl⟩,hge,hrow0,hfree0,fun _ _ k hk=>(by cases hk),fun _ hl=>absurd hl List.not_mem_nil⟩
 have HM:=hide h
 have HP:=hide hp
 have HRI:=hide hri
 have CC:=hide C
 have HLL:=hide HL
 have hB0:w0.heap.size≤w.heap.size:=h.lt
 have HENV:Hid (∀ W b,Below w0.heap.size w0 W→w0.heap.size≤b→Env W b pb po (S.f1 tg).actN (S.f1 tg).act):=fun W b hW hb=>⟨hri.below hW lr,C.tab.below hW C.tab.1,C.pow.below hW lr,Nat.lt_of_lt_of_le hri.1 hb,Nat.lt_of_lt_of_le C.tab.1 hb,Nat.lt_of_lt_of_le C.pow.lt hb⟩
 obtain ⟨R0,hR0⟩:∃ R0,R0=runL S (liesP S n making) tg 201 made0 [] []:=⟨_,rfl⟩
 rw [← hR0]
 have HR0:=hide hR0
 clear h hp hri C HL hbl hsl hrow0 hfree0 hR0
 obtain ⟨H0,hH0⟩:=runP_some (S.f1 tg).act (S.f1 tg).actN 2001 0 0 0 [] (by omega) (by omega)
 have HG0:Hid (Goes (S.f1 tg).act (S.f1 tg).actN m0 H0):=.inl ⟨rfl,0,0,0,[],⟨trivial,rfl,by simp,rfl,rfl,rfl,fun x hx=>absurd hx List.not_mem_nil,by omega,by omega,by omega⟩,hH0⟩
 have HNR:=hide (fun y n=>next_run (S.f1 tg).act (S.f1 tg).actN y n 2001 0 0 0 [] H0 (by omega) rfl hH0)
 clear hH0
 go_enter Tryz.func165,Tryz.ntmps165
 go_wp2_with fail
 refine (begin_ty pb po (S.f1 tg).actN cap w).mono ?_
 rintro e w1 ⟨b,rfl,hb,hM1,hty1,hB1⟩
 have MA1:=hide hM1
 have TY1:=hide hty1
 have B1:=hide hB1
 clear hM1 hty1 hB1 e4
 go_wp2_with fail
 refine (goOn_start b pb po (S.f1 tg).actN cap (S.f1 tg).act m0 H0 ⟨false,0,⟨#[]⟩⟩ _ MA1.out (HENV.out _ _ (HM.out.bel.trans (B1.out.mono hB0)) (Nat.le_trans hB0 hb)) rfl (by omega) hok HG0.out).mono ?_
 rintro e w2 ⟨m1,rfl,hM2,hS2,hO2⟩
 have MA2:=hide hM2
 have ST2:=hide hS2
 have O2:=hide hO2
 have TY2:Hid (∃ cs,w2.heap[b]?=some (.cells cs 239 (0,0))):=by obtain ⟨cs,hc⟩:=TY1.out;exact hO2.ty cs _ _ hc
 have hz2:w1.heap.size≤w2.heap.size:=hO2.size
 have B2:=hide (B1.out.trans (hO2.below hb B1.out.size))
 clear hM2 hS2 hO2
 simp only [Turn.v]
 have A3:=hide ((Below.refl w2.heap.size w2).alloc lr (.cells #[.bool m1.t.over,.int .i64 m1.t.code,.string m1.t.text,.bool m1.t.ask,.string m1.t.name,.int .i64 m1.t.steps] 208))
 have TB3:Hid (TB (w2.alloc (.cells #[.bool m1.t.over,.int .i64 m1.t.code,.string m1.t.text,.bool m1.t.ask,.string m1.t.name,.int .i64 m1.t.steps] 208)) w2.heap.size m1.t):=heap_alloc_new _ _
 have hbl2:b<w2.heap.size:=MA2.out.lt
 go_wp2
 generalize w2.alloc (.cells #[.bool m1.t.over,.int .i64 m1.t.code,.string m1.t.text,.bool m1.t.ask,.string m1.t.name,.int .i64 m1.t.steps] 208)=W3 at A3 TB3 ⊢
 obtain ⟨tb,htb⟩:∃ tb,tb=w2.heap.size:=⟨_,rfl⟩
 rw [← htb] at TB3 ⊢
 have htbw:w.heap.size≤tb:=by have:=B2.out.size;omega
 have hbtb:b<tb:=by omega
 have B3:=hide (B2.out.trans (A3.out.mono B2.out.size))
 have RI0:Hid (RI w0 S mb mp (.slice a0 S.n0 c0) (.slice a1 S.n1 c1) w n making eb tg nm b (.slice (some ⟨pb,po,none⟩) (S.f1 tg).actN cap) tb made0 G0 V0 R0 W3 [] [] made0 G0 V0 mk0 md0 (.slice none 0 0) m1 H0) :=
  ⟨HM.out.below B3.out lr,HP.out,rg_nil S made0,hroom,HU.out.below B3.out lr,MA2.out.below A3.out hbl2,(by obtain ⟨cs,hc⟩:=TY2.out;exact ⟨cs,(A3.out.block b hbl2).trans hc⟩),TB3.out,ST2.out,(HNR.out (yL []) 0).2,fun y n _ _=>(HNR.out y n).1.symm,HR0.out.symm,Nat.zero_le _,Ext.refl _ _ _ _,KX.of_below B3.out lr hB0,fun k hk=>(by cases hk)⟩
 clear htb TB3 A3 B2 MA1 TY1 MA2 TY2 ST2 O2 HG0 HNR B1 HM HU hroom HP B3 hz2 hbl2
 go_loopg [] 202 (fun g wr=>∃ ys ls made G V mk md v m H,Hid (RI w0 S mb mp (.slice a0 S.n0 c0) (.slice a1 S.n1 c1) w n making eb tg nm b (.slice (some ⟨pb,po,none⟩) (S.f1 tg).actN cap) tb made0 G0 V0 R0 wr ys ls made G V mk md v m H)∧201 - ys.length≤g)
 case atStart=>exact ⟨[],[],made0,G0,V0,mk0,md0,_,m1,H0,RI0,by simp⟩
 case round =>
  clear RI0
  obtain ⟨ys,ls,made,G,V,mk,md,v,m,H,HI,hg⟩:=hrel
  have HT:=hide (HI.out.co.turn HI.out.st HI.out.lk)
  obtain ⟨tbl,t0,t1,t2,t3,t4,t5,tf⟩:=HI.out.tb.facts
  have tf0:=tf 0
  have tf1:=tf 1
  have tf2:=tf 2
  have tf3:=tf 3
  have tf4:=tf 4
  have tf5:=tf 5
  clear tf
  have hbw:w.heap.size≤b:=hb
  have heb:eb≠b:=by omega
  have hetb:eb≠tb:=by omega
  cases ho:m.t.over with
  | true =>
   rw [ho] at t0
   have HR1:Hid (R0=.inl (made,(m.t,ls))):=by
    show _=_
    rw [← HI.out.run,show 201 - ys.length=(200 - ys.length)+1 by have:=HI.out.le;omega,runL,← HT.out,if_pos ho]
   obtain ⟨⟨ax,cx,hbl,hsl⟩,-⟩:=HI.out.eu
   obtain ⟨hel2,-,-,e2,e3,-,-,-,-,ef⟩:=hbl.facts
   have ef2:=ef 2
   have ef3:=ef 3
   have HBL:=hide hbl
   have HSL:=hide hsl
   clear hbl hsl ef
   obtain ⟨code,hcode⟩:∃ code,code=m.t.code:=⟨_,rfl⟩
   obtain ⟨text,htext⟩:∃ text,text=m.t.text:=⟨_,rfl⟩
   rw [← hcode] at t1
   rw [← htext] at t2
   have HC:=hide hcode
   have HX:=hide htext
   clear hcode htext
   go_wp2_with fail
   clear t0 t3 t4 t5 tf0 tf1 tf2 tf3 tf4 tf5
   refine wp_region_held_drew (S:=fun V=>V.cell? ⟨tb,1,none⟩=some (.int .i64 code)∧V.cell? ⟨tb,2,none⟩=some (.string text)) (by as_aux_lemma=>kernel_rfl) ⟨t1,t2⟩ (fun hS=>?_)
   have HS:=hide hS
   clear hS
   iterate 3
    refine anyS_nx 0 (v:=?_) rfl rfl (by as_aux_lemma=>kernel_rfl) (fun _ _ _ h=>h) rfl ?_ HS.out ?_
    rotate_left
    ·(intro wz hSw;obtain ⟨s0,s1⟩:=hSw;go_simp)
     (try with_reducible rfl)
    (try simp only [Act.put,List.setIfInBounds_toArray,List.set_cons_zero,List.set_cons_succ])
   refine anyS_nx 4 (v:=?_) rfl rfl (by as_aux_lemma=>kernel_rfl) (fun _ _ _ h=>h) rfl ?_ HS.out ?_
   rotate_left
   ·(intro wz hSw;obtain ⟨s0,s1⟩:=hSw;go_simp)
    (try with_reducible rfl)
   (try simp only [Act.put,List.setIfInBounds_toArray,List.set_cons_zero,List.set_cons_succ])
   refine anyS_nx 3 (v:=?_) rfl rfl (by as_aux_lemma=>kernel_rfl) (fun _ _ _ h=>h) rfl ?_ HS.out ?_
   rotate_left
   ·(intro wz hSw;obtain ⟨s0,s1⟩:=hSw;go_simp)
    (try with_reducible rfl)
   (try simp only [Act.put,List.setIfInBounds_toArray,List.set_cons_zero,List.set_cons_succ])
   iterate 4
    refine anyS_nx 5 (v:=?_) rfl rfl (by as_aux_lemma=>kernel_rfl) (fun _ _ _ h=>h) rfl ?_ HS.out ?_
    rotate_left
    ·(intro wz hSw;obtain ⟨s0,s1⟩:=hSw;go_simp)
     (try with_reducible rfl)
    (try simp only [Act.put,List.setIfInBounds_toArray,List.set_cons_zero,List.set_cons_succ])
   have S5:Hid ((wr.drew.setCell ⟨eb,2,none⟩ (.int .i64 code)).cell? ⟨tb,1,none⟩=some (.int .i64 code)∧(wr.drew.setCell ⟨eb,2,none⟩ (.int .i64 code)).cell? ⟨tb,2,none⟩=some (.string text)):=⟨(cell_far _ _ _ _ hetb).trans HS.out.1,(cell_far _ _ _ _ hetb).trans HS.out.2⟩
   refine anyS_one (i:=9) rfl (by as_aux_lemma=>kernel_rfl) (fun K hK=>?_)
   go_simp
   refine hK.out _ _ S5.out ?_
   clear hK K HS
   (try simp only [Act.put,List.setIfInBounds_toArray,List.set_cons_zero,List.set_cons_succ])
   have HS:=S5
   iterate 3
    refine anyS_nx 10 (v:=?_) rfl rfl (by as_aux_lemma=>kernel_rfl) (fun _ _ _ h=>h) rfl ?_ HS.out ?_
    rotate_left
    ·(intro wz hSw;obtain ⟨s0,s1⟩:=hSw;go_simp)
     (try with_reducible rfl)
    (try simp only [Act.put,List.setIfInBounds_toArray,List.set_cons_zero,List.set_cons_succ])
   have S6:Hid (((wr.drew.setCell ⟨eb,2,none⟩ (.int .i64 code)).setCell ⟨eb,3,none⟩ (.string text)).cell? ⟨tb,1,none⟩=some (.int .i64 code)∧((wr.drew.setCell ⟨eb,2,none⟩ (.int .i64 code)).setCell ⟨eb,3,none⟩ (.string text)).cell? ⟨tb,2,none⟩=some (.string text)):=⟨(cell_far _ _ _ _ hetb).trans S5.out.1,(cell_far _ _ _ _ hetb).trans S5.out.2⟩
   refine anyS_one (i:=13) rfl (by as_aux_lemma=>kernel_rfl) (fun K hK=>?_)
   go_simp
   refine hK.out _ _ S6.out ?_
   clear hK K
   (try simp only [Act.put,List.setIfInBounds_toArray,List.set_cons_zero,List.set_cons_succ])
   refine wpAnyH_done (by as_aux_lemma=>kernel_rfl) ?_ _
   have OE:Hid (Only eb wr ((wr.setCell ⟨eb,2,none⟩ (.int .i64 code)).setCell ⟨eb,3,none⟩ (.string text)).drew):=(bset (bset (Only.refl eb wr) 2 _) 3 _).drew
   have HB6:Hid (EntBlk ((wr.setCell ⟨eb,2,none⟩ (.int .i64 code)).setCell ⟨eb,3,none⟩ (.string text)).drew eb nm 3 code text (.slice ax (S.f1 tg).actN cx) v 0):=heap_setCell_at (heap_setCell_at HBL.out (j:=2) _) (j:=3) _
   generalize ((wr.setCell ⟨eb,2,none⟩ (.int .i64 code)).setCell ⟨eb,3,none⟩ (.string text)).drew=W6 at OE HB6 ⊢
   go_end0
   rw [HR1.out]
   refine ⟨rfl,G,V,mk,md,v,HI.out.mi.entOnly HBL.out HI.out.eu.free hge OE.out,⟨⟨_,by rw [← HC.out,← HX.out];exact HB6.out,by rw [ActOk,if_pos rfl];exact ⟨htg,_,_,rfl,HSL.out⟩⟩,hge,own_blk HI.out.eu.row fun k hk=>?_⟩,HI.out.eu.free,HI.out.vn,HI.out.ext,HI.out.kx.trans (KX.of_only (X:=fun i=>i=eb) OE.out rfl HI.out.mi.lt hge) (fun _ _ h=>h)⟩
   obtain ⟨_,hl,cs,hc⟩:=own_cellsM HI.out.eu.row k hk
   exact OE.out.block k hl fun e=>absurd (two_types HBL.out (e ▸ hc)) (by decide)
  | false =>
   obtain ⟨a,nm2,s2,pp,st,l,rfl⟩:=stands_look HI.out.st ho
   have el:l=ys.length+1:=HI.out.lk
   subst el
   obtain ⟨htt,hsim,hnm2,-⟩:=HI.out.st
   have hylt:ys.length<200:=by have:=hsim.lk;omega
   have HTT:=hide htt
   rw [htt] at t0 t1 t2 t3 t4 t5
   simp only at t0 t1 t2 t3 t4 t5
   have HSM:=hide hsim
   have HN2:=hide hnm2
   have HTY:Hid (turnY S tg ys=⟨false,0,⟨#[]⟩,a,nm2,st⟩):=HT.out.symm.trans htt
   have hls:ls.length≤200:=by have:=HI.out.rg.len;omega
   clear htt hsim hnm2
   have HVB:Hid (∀ k,v.ownBlock=some k→k≠b∧k≠tb):=fun k hk=>by
    obtain ⟨_,_,cs,hc⟩:=own_cellsM HI.out.eu.row k hk
    obtain ⟨cs2,hc2⟩:=HI.out.ty
    exact ⟨fun e=>absurd (two_types hc2 (e ▸ hc)) (by decide),fun e=>absurd (two_types (show wr.heap[tb]?=_ from HI.out.tb) (e ▸ hc)) (by decide)⟩
   cases a with
   | false =>
    go_wp2_with fail
    clear t0 t1 t2 t3 t4 t5 tf0 tf1 tf2 tf3 tf4 tf5
    refine (reply_has CC.out wr eb tg nm ls v ⟨false,0,⟨#[]⟩,false,nm2,st⟩ HI.out.mi HI.out.eu hls rfl).mono ?_
    rintro e w3 ⟨rfl,v',hRS⟩
    have RS:=hide hRS
    clear hRS
    obtain ⟨hbv,hhbv⟩:∃ hbv,hbv=hasS S nm2:=⟨_,rfl⟩
    have HHB:=hide hhbv
    simp only at RS ⊢
    rw [← hhbv] at RS ⊢
    clear hhbv
    have NX:Hid (runL S (liesP S n making) tg (200 - ys.length) made (ys++[⟨hbv,0,⟨#[]⟩⟩]) (ls++[⟨nm2,false,hbv⟩])=R0):=by
     show _=_
     have:=HI.out.run
     rw [show 201 - ys.length=(200 - ys.length)+1 by omega,runL,HTY.out,if_neg (by simp),if_pos rfl,← HHB.out] at this
     exact this
    have PG2:=hide HI.out.pg
    have RG2:Hid (RG S made (ys++[⟨hbv,0,⟨#[]⟩⟩]) (ls++[⟨nm2,false,hbv⟩])):=HI.out.rg.add (by rw [HHB.out];exact hasS_ok _ _) HN2.out (fun h=>by cases h)
    have RM2:Hid (roomN S making made (200 - ys.length)):=by have:=HI.out.room;unfold roomN at this ⊢;show _≤_;omega
    have EX2:=hide HI.out.ext
    have RSZ:Hid ((⟨hbv,0,⟨#[]⟩⟩:Reply).text.size≤2000):=Nat.zero_le _
    have BK:Hid (w3.heap[b]?=wr.heap[b]?):=by
     obtain ⟨cs,hc⟩:=HI.out.ty
     exact RS.out.2.2.1.blk b _ _ _ hc (by decide) (by decide) (by decide) fun h=>by rcases h with h | h;exact heb h.symm;exact (HVB.out b h).1 rfl
    have TK:Hid (TB w3 tb ⟨false,0,⟨#[]⟩,false,nm2,st⟩):=by
     have h0:=HI.out.tb
     rw [HTT.out] at h0
     exact (RS.out.2.2.1.blk tb _ _ _ h0 (by decide) (by decide) (by decide) fun h=>by rcases h with h | h;exact hetb h.symm;exact (HVB.out tb h).2 rfl).trans h0
    have hsz3:wr.heap.size≤w3.heap.size:=RS.out.2.2.1.below.size
    have MA3:=hide (HI.out.ma.blk BK.out hsz3)
    have TY3:Hid (∃ cs,w3.heap[b]?=some (.cells cs 239 (0,0))):=by obtain ⟨cs,hc⟩:=HI.out.ty;exact ⟨cs,BK.out.trans hc⟩
    go_wp2_with fail
    refine (goOn_look b pb po (S.f1 tg).actN cap (S.f1 tg).act m false nm2 s2 pp st (ys.length+1) ⟨hbv,0,⟨#[]⟩⟩ _ MA3.out (HENV.out _ _ RS.out.1.bel (Nat.le_trans hB0 hb)) HI.out.st (by omega) RSZ.out (by omega) hok).mono ?_
    rintro e w4 ⟨m2,H2,rfl,hM4,hS4,hL4,hC4,hO4⟩
    have MA4:=hide hM4
    have ST4:=hide hS4
    have LK4:=hide hL4
    have CO4:=hide (HI.out.co.step hC4)
    have O4:=hide hO4
    obtain ⟨cs3,hcs3⟩:=TY3.out
    have MI4:=hide (RS.out.1.only hcs3 (by decide) (Nat.le_trans hB0 hb) hO4)
    have EU4:=hide (RS.out.2.1.only hcs3 (by decide) hO4)
    have TB4:=hide (TK.out.only hO4 (by omega))
    have TY4:=hide (hO4.ty _ _ _ hcs3)
    have K4:=hide ((HI.out.kx.trans RS.out.2.2.1 (fun i hi h=>by rcases h with h | h;exact h;exact absurd (HI.out.vn i h) (by omega))).trans (KX.of_only (X:=fun i=>i=b) hO4 rfl RS.out.1.lt (Nat.le_trans hB0 hb)) (fun i hi h=>by have e2:i=b:=h;omega))
    have VN4:Hid (∀ k,v'.ownBlock=some k→w.heap.size≤k):=fun k hk=>by
     rcases RS.out.2.2.2 k hk with h | h
     ·exact HI.out.vn k h
     ·exact Nat.le_trans HI.out.kx.below.size h
    clear hM4 hS4 hL4 hC4 hO4 hcs3
    obtain ⟨ul,u0,u1,u2,u3,u4,u5,uf⟩:=TB4.out.facts
    have uf0:=uf 0
    have uf1:=uf 1
    have uf2:=uf 2
    have uf3:=uf 3
    have uf4:=uf 4
    have uf5:=uf 5
    clear uf
    obtain ⟨g,rfl⟩:∃ g,gk=g+1:=⟨gk - 1,by omega⟩
    have TB5:=hide (TB4.out.put m2.t)
    have OP:Hid (Only tb w4 (putTurn w4 tb m2.t)):=set_only m2.t
    have htB:w0.heap.size≤tb:=Nat.le_trans hB0 htbw
    have hlen1:(ys++[(⟨hbv,0,⟨#[]⟩⟩:Reply)]).length=ys.length+1:=by simp
    have RI5:Hid (RI w0 S mb mp (.slice a0 S.n0 c0) (.slice a1 S.n1 c1) w n making eb tg nm b (.slice (some ⟨pb,po,none⟩) (S.f1 tg).actN cap) tb made0 G0 V0 R0 (putTurn w4 tb m2.t) (ys++[⟨hbv,0,⟨#[]⟩⟩]) (ls++[⟨nm2,false,hbv⟩]) made G V mk md v' m2 H2) :=
     ⟨MI4.out.only TB4.out (by decide) htB OP.out,PG2.out,RG2.out,(by rw [hlen1,show 201 - (ys.length+1)=200 - ys.length by omega];exact RM2.out),EU4.out.only TB4.out (by decide) OP.out,MA4.out.boxed (by omega) m2.t,(by obtain ⟨cs,hc⟩:=TY4.out;exact ⟨cs,(OP.out.block b (heap_lt hc) (by omega)).trans hc⟩),TB5.out,ST4.out,(by rw [hlen1];exact LK4.out),CO4.out,(by rw [hlen1,show 201 - (ys.length+1)=200 - ys.length by omega];exact NX.out),(by rw [hlen1];omega),EX2.out,K4.out.trans (KX.of_only (X:=fun i=>i=tb) OP.out rfl MI4.out.lt htB) (fun i hi h=>by have e2:i=tb:=h;omega),VN4.out⟩
    simp only [Turn.v]
    go_wp2
    go_roundg g
    case measure=>omega
    case rel=>exact ⟨_,_,_,_,_,_,_,_,_,_,RI5,by rw [hlen1];omega⟩
   | true =>
    go_wp2_with fail
    clear t0 t1 t2 t3 t4 t5 tf0 tf1 tf2 tf3 tf4 tf5
    refine (reply_ask CC.out n HLL.out wr eb tg nm ls v ⟨false,0,⟨#[]⟩,true,nm2,st⟩ hlen HI.out.mi HI.out.pg (by have:=HI.out.room;unfold roomN at this ⊢;omega) HI.out.eu hls rfl HN2.out).mono ?_
    intro e w3 hpost
    simp only at hpost
    have hrun:=HI.out.run
    rw [show 201 - ys.length=(200 - ys.length)+1 by omega,runL,HTY.out,if_neg (by simp),if_neg (by simp)] at hrun
    simp only at hrun
    rcases hr:liesP S n making made nm2 with ⟨made2,x⟩ | c | d
    ·rw [hr] at hpost hrun
     dsimp only at hrun
     obtain ⟨rfl,G2,V2,mk2,md2,v',hRS,hEx⟩:=hpost
     obtain ⟨hp2,-,hx,hxn⟩:=liesP_good CC.out.ok n making made nm2 made2 x HI.out.pg HN2.out hr
     have hgrow:=liesP_grow S n making made nm2 made2 x hr
     have RS:=hide hRS
     have NX:=hide hrun
     have PG2:=hide hp2
     have hreq:repE x=⟨decide (¬ x.kind=2),x.code,x.text⟩:=rfl
     have RG2:Hid (RG S made2 (ys++[repE x]) (ls++[⟨nm2,true,false⟩])):=(HI.out.rg.mono hEx.mem).add (repE_ok (hp2.ents x hx)) HN2.out (fun _=>⟨x,hx,hxn⟩)
     have RM2:Hid (roomN S making made2 (200 - ys.length)):=by have:=HI.out.room;unfold roomN at this ⊢;unfold Grow at hgrow;show _≤_;omega
     have EX2:=hide (HI.out.ext.trans hEx HI.out.kx.below.size)
     have RSZ:Hid ((repE x).text.size≤2000):=(hp2.ents x hx).tx
     rw [hreq] at NX RG2 RSZ
     clear hRS hrun hp2 hx hxn hgrow hEx hr hreq
     obtain ⟨kb,hkb⟩:∃ kb,kb=decide (¬ x.kind=2):=⟨_,rfl⟩
     rw [← hkb] at NX RG2 RSZ ⊢
     clear hkb
     have BK:Hid (w3.heap[b]?=wr.heap[b]?):=by
      obtain ⟨cs,hc⟩:=HI.out.ty
      exact RS.out.2.2.1.blk b _ _ _ hc (by decide) (by decide) (by decide) fun h=>by rcases h with h | h;exact heb h.symm;exact (HVB.out b h).1 rfl
     have TK:Hid (TB w3 tb ⟨false,0,⟨#[]⟩,true,nm2,st⟩):=by
      have h0:=HI.out.tb
      rw [HTT.out] at h0
      exact (RS.out.2.2.1.blk tb _ _ _ h0 (by decide) (by decide) (by decide) fun h=>by rcases h with h | h;exact hetb h.symm;exact (HVB.out tb h).2 rfl).trans h0
     have hsz3:wr.heap.size≤w3.heap.size:=RS.out.2.2.1.below.size
     have MA3:=hide (HI.out.ma.blk BK.out hsz3)
     have TY3:Hid (∃ cs,w3.heap[b]?=some (.cells cs 239 (0,0))):=by obtain ⟨cs,hc⟩:=HI.out.ty;exact ⟨cs,BK.out.trans hc⟩
     go_wp2_with fail
     refine (goOn_look b pb po (S.f1 tg).actN cap (S.f1 tg).act m true nm2 s2 pp st (ys.length+1) ⟨kb,x.code,x.text⟩ _ MA3.out (HENV.out _ _ RS.out.1.bel (Nat.le_trans hB0 hb)) HI.out.st (by omega) RSZ.out (by omega) hok).mono ?_
     rintro e w4 ⟨m2,H2,rfl,hM4,hS4,hL4,hC4,hO4⟩
     have MA4:=hide hM4
     have ST4:=hide hS4
     have LK4:=hide hL4
     have CO4:=hide (HI.out.co.step hC4)
     have O4:=hide hO4
     obtain ⟨cs3,hcs3⟩:=TY3.out
     have MI4:=hide (RS.out.1.only hcs3 (by decide) (Nat.le_trans hB0 hb) hO4)
     have EU4:=hide (RS.out.2.1.only hcs3 (by decide) hO4)
     have TB4:=hide (TK.out.only hO4 (by omega))
     have TY4:=hide (hO4.ty _ _ _ hcs3)
     have K4:=hide ((HI.out.kx.trans RS.out.2.2.1 (fun i hi h=>by rcases h with h | h;exact h;exact absurd (HI.out.vn i h) (by omega))).trans (KX.of_only (X:=fun i=>i=b) hO4 rfl RS.out.1.lt (Nat.le_trans hB0 hb)) (fun i hi h=>by have e2:i=b:=h;omega))
     have VN4:Hid (∀ k,v'.ownBlock=some k→w.heap.size≤k):=fun k hk=>by
      rcases RS.out.2.2.2 k hk with h | h
      ·exact HI.out.vn k h
      ·exact Nat.le_trans HI.out.kx.below.size h
     clear hM4 hS4 hL4 hC4 hO4 hcs3
     obtain ⟨ul,u0,u1,u2,u3,u4,u5,uf⟩:=TB4.out.facts
     have uf0:=uf 0
     have uf1:=uf 1
     have uf2:=uf 2
     have uf3:=uf 3
     have uf4:=uf 4
     have uf5:=uf 5
     clear uf
     obtain ⟨g,rfl⟩:∃ g,gk=g+1:=⟨gk - 1,by omega⟩
     have TB5:=hide (TB4.out.put m2.t)
     have OP:Hid (Only tb w4 (putTurn w4 tb m2.t)):=set_only m2.t
     have htB:w0.heap.size≤tb:=Nat.le_trans hB0 htbw
     have hlen1:(ys++[(⟨kb,x.code,x.text⟩:Reply)]).length=ys.length+1:=by simp
     have RI5:Hid (RI w0 S mb mp (.slice a0 S.n0 c0) (.slice a1 S.n1 c1) w n making eb tg nm b (.slice (some ⟨pb,po,none⟩) (S.f1 tg).actN cap) tb made0 G0 V0 R0 (putTurn w4 tb m2.t) (ys++[⟨kb,x.code,x.text⟩]) (ls++[⟨nm2,true,false⟩]) made2 G2 V2 mk2 md2 v' m2 H2) :=
      ⟨MI4.out.only TB4.out (by decide) htB OP.out,PG2.out,RG2.out,(by rw [hlen1,show 201 - (ys.length+1)=200 - ys.length by omega];exact RM2.out),EU4.out.only TB4.out (by decide) OP.out,MA4.out.boxed (by omega) m2.t,(by obtain ⟨cs,hc⟩:=TY4.out;exact ⟨cs,(OP.out.block b (heap_lt hc) (by omega)).trans hc⟩),TB5.out,ST4.out,(by rw [hlen1];exact LK4.out),CO4.out,(by rw [hlen1,show 201 - (ys.length+1)=200 - ys.length by omega];exact NX.out),(by rw [hlen1];omega),EX2.out,K4.out.trans (KX.of_only (X:=fun i=>i=tb) OP.out rfl MI4.out.lt htB) (fun i hi h=>by have e2:i=tb:=h;omega),VN4.out⟩
     simp only [Turn.v]
     go_wp2
     go_roundg g
     case measure=>omega
     case rel=>exact ⟨_,_,_,_,_,_,_,_,_,_,RI5,by rw [hlen1];omega⟩
    ·rw [hr] at hpost hrun
     obtain ⟨u,rfl,h1,h2⟩:=hpost
     subst hrun
     go_wp2_with fail
     exact ⟨rfl,u,rfl,h1,HI.out.kx.below.trans h2⟩
    ·rw [hr] at hpost hrun
     obtain ⟨rfl,h2⟩:=hpost
     subst hrun
     go_wp2_with fail
     exact ⟨rfl,rfl,HI.out.kx.below.trans h2⟩
end
end Go.Proofs.YtfnbojfnelfnkaaGreatDoor.Vp
