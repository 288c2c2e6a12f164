import Derived.Test.YtfnbojfnelfnkaaGreatDoorYO
import Derived.Test.YtfnbojfnelfnkaaGreatDoorYN
import Derived.Test.YtfnbojfnelfnkaaGreatDoorZJ
import Derived.Deep.RegionHeld3
set_option maxRecDepth 100000
set_option maxHeartbeats 8000000
namespace Go.Proofs.YtfnbojfnelfnkaaGreatDoor.Vp
open Go.RowKit Go.Proofs.YtfnbojfnelfnkaaGreatDoor.Ca
structure ShAt (B:Nat)(w:World)(hb:Nat)(s0 s1 md or:Value)(L:List SM)(made:List Ent):Prop where
 lt:hb<w.heap.size
 c0:w.cell? ⟨hb,0,none⟩=some s0
 c1:w.cell? ⟨hb,1,none⟩=some s1
 c2:w.cell? ⟨hb,2,none⟩=some md
 c3:w.cell? ⟨hb,3,none⟩=some or
 rmd:w.ownsRow B 146 6 md L.length (L.flatMap smV)
 ror:w.ownsRow B 9 1 or made.length (strV (made.map (·.name)))
 seen:∀ m∈L,m.done=true→w.ownsRow B 149 3 m.sv m.seen.length (seenV m.seen)
theorem ShAt.below {B C:Nat}{w w':World}{hb:Nat}{s0 s1 md or:Value}{L:List SM}{made:List Ent}(h:ShAt B w hb s0 s1 md or L made)(hb2:Below C w w')(hC:w.heap.size≤C):ShAt B w' hb s0 s1 md or L made:=by
 have hl:hb<C:=Nat.lt_of_lt_of_le h.lt hC
 exact ⟨Nat.lt_of_lt_of_le h.lt hb2.size,(hb2.cell (p:=⟨hb,0,none⟩) hl).trans h.c0,(hb2.cell (p:=⟨hb,1,none⟩) hl).trans h.c1,(hb2.cell (p:=⟨hb,2,none⟩) hl).trans h.c2,(hb2.cell (p:=⟨hb,3,none⟩) hl).trans h.c3,own_below h.rmd hb2 hC,own_below h.ror hb2 hC,fun m hm hd=>own_below (h.seen m hm hd) hb2 hC⟩
theorem rel_at {L:List SM}{made:List Ent}(h:SRel L [] made){i:Nat}{x:Ent}(hx:made[i]?=some x):∃ k m,fI L x.name=some k∧L[k]?=some m∧m.name=x.name∧m.done=true∧m.code=(resE x).code∧m.text=(resE x).text∧m.seen=x.looks:=by
 obtain ⟨m,hm,e1,e2,e3,e4,e5⟩:=h.got x (List.mem_of_getElem? hx)
 obtain ⟨k,k1,k2⟩:=fI_some h.nod hm e1
 exact ⟨k,m,k1,k2,e1,e2,e3,e4,e5⟩
theorem dsub_nil {S:Spc}{made:List Ent}{x:Ent}(h1:actE S x=0)(h2:x.looks=[])(W:World)(b:Nat):DSub W b (deedE S made x,.slice none 0 0,.slice none 0 0):=by
 refine ⟨?_,?_⟩
 ·show W.ownsRow b 162 3 (.slice none 0 0) (actE S x) (insL (S.f1 x.tg).act (actE S x))
  rw [h1]
  exact World.ownsRow_nil _ _ _ _
 ·show W.ownsRow b 151 4 (.slice none 0 0) x.looks.length (lnkL (lkF made x.looks) x.looks.length)
  rw [h2]
  exact World.ownsRow_nil _ _ _ _
theorem where_pl {S:Spc}{made:List Ent}(h:PG S [] made){i:Nat}{x:Ent}(hx:made[i]?=some x){l:Lk}(hl:l∈x.looks)(ha:l.ask=true){D:List Deed}(hD:D=(made.take i).map (deedE S made)):whereN (dF D) l.name i=((plOf made l.name:Nat):Int):=by
 obtain ⟨y,hy,hn,hp⟩:=h.asked hx hl ha
 have key:∀ (j:Nat) (z:Ent),j<i→made[j]?=some z→(dF D j).name=z.name:=fun j z hj hz=>by
  unfold dF
  rw [hD,List.getD_eq_getElem?_getD,List.getElem?_map,List.getElem?_take_of_lt hj,hz]
  rfl
 unfold whereN
 refine firstNo_at hp ?_ fun j hj=>?_
 ·rw [key _ y hp hy,hn]
  simp
 ·have hlt:=(List.getElem?_eq_some_iff.1 hy).1
  have hz:made[j]?=some made[j]:=List.getElem?_eq_getElem (by omega)
  rw [key j _ (by omega) hz]
  have hne:=List.pairwise_iff_getElem.1 h.nod j _ (by omega) hlt hj
  rw [(List.getElem?_eq_some_iff.1 hy).2,hn] at hne
  cases hb:(made[j].name.toList == l.name.toList) with
  | false=>rfl
  | true=>exact absurd (bytes_beq hb) hne
theorem seen_cell {w:World}{base g c:Nat}{ls:List Lk}(h:w.ownsRow base 149 3 (.slice (some ⟨g,0,none⟩) ls.length c) ls.length (seenV ls)){k:Nat}{l:Lk}(hl:ls[k]?=some l)(j:Nat)(hj:j<3){u:Value}(hu:[Value.string l.name,.bool l.ask,.bool l.has][j]?=some u):w.cell? ⟨g,k*3+j,none⟩=some u :=
 (own_cell h (j:=k*3+j) (u:=u) (by rw [seenV,flat_at (fun l:Lk=>[Value.string l.name,.bool l.ask,.bool l.has]) 3 (fun _=>rfl) ls k j hj l hl];exact hu)).1
section
variable {S:Spc}{a0 a1:Option Addr}{c0 c1:Nat}
theorem l3Made_any (B:Nat)(w:World)(hb:Nat)(md or:Value)(L:List SM)(made:List Ent)
  (hsh:ShAt B w hb (.slice a0 S.n0 c0) (.slice a1 S.n1 c1) md or L made) (hrel:SRel L [] made) (hpg:PG S [] made) (hlen:made.length≤40201)
  (hv0:SlSource w a0 S.n0 S.f0) (hv1:SlTarget w a1 S.n1 S.f1) (hok:SpcOk S) (hfit:∀ i,i<S.n1→FitsTarget (S.f1 i)) :
  Calls Tryz.prog 47 #[.pointer (some ⟨hb,0,none⟩)] w fun e w'=>∃ a c R,e=.returned (.agg #[.slice a R.length c])∧DRow w' w.heap.size (.slice a R.length c) R∧R.map (·.1)=makeD S made∧Below w.heap.size w w':=by
 have HSH:=hide hsh
 have HREL:=hide hrel
 have HPG:=hide hpg
 have V0:=hide hv0
 have V1:=hide hv1
 have HOK:=hide hok
 have HFT:=hide hfit
 have hLl:L.length≤40201:=by have:=hrel.len;simp only [List.length_nil,Nat.add_zero] at this;omega
 obtain ⟨am,cm,rfl⟩:=own_sliceM hsh.rmd
 obtain ⟨ao,co,rfl⟩:=own_sliceM hsh.ror
 obtain ⟨N,hN⟩:∃ N,N=L.length:=⟨_,rfl⟩
 obtain ⟨n,hn⟩:∃ n,n=made.length:=⟨_,rfl⟩
 have HNN:=hide hN
 have HN:=hide hn
 rw [← hN,← hn] at HSH
 rw [← hN] at hLl
 rw [← hn] at hlen
 clear hsh hrel hpg hv0 hv1 hok hfit hN hn
 obtain ⟨il,hil,hil0,hil1,hil2⟩:=info_parts infoLink
 obtain ⟨id',hid,hid0,hid1,hid2⟩:=info_parts infoDeed
 have A0:=hide (((Below.refl w.heap.size w).alloc lr (.cells #[.slice none 0 0] 43)).alloc (by simp) (.cells #[.slice none 0 0] 43))
 have kR:Hid (((w.alloc (.cells #[.slice none 0 0] 43)).alloc (.cells #[.slice none 0 0] 43)).heap[w.heap.size]?=some (.cells #[.slice none 0 0] 43 (0,0))) :=
  ((((Below.refl (w.heap.size+1) _).alloc (by simp) _).block w.heap.size (by omega)).trans (heap_alloc_new w _))
 have kA:Hid (((w.alloc (.cells #[.slice none 0 0] 43)).alloc (.cells #[.slice none 0 0] 43)).heap[w.heap.size+1]?=some (.cells #[.slice none 0 0] 43 (0,0))):=by
  have h2:=heap_alloc_new (w.alloc (.cells #[.slice none 0 0] 43)) (.cells #[.slice none 0 0] 43)
  rw [show (w.alloc (.cells #[.slice none 0 0] 43)).heap.size=w.heap.size+1 by simp] at h2
  exact h2
 go_enter Tryz.func47,Tryz.ntmps47
 go_wp2_with fail
 generalize (w.alloc (.cells #[.slice none 0 0] 43)).alloc (.cells #[.slice none 0 0] 43)=W0 at A0 kR kA ⊢
 go_loopw [4] (fun v wr=>∃ (i:Nat) (a5:Option Addr) (c5:Nat) (R:List DR),i≤n∧v=.int .i64 i∧R.length=i∧Hid (R.map (·.1)=(made.take i).map (deedE S made))∧Hid (DRow wr (w.heap.size+2) (.slice a5 i c5) R)∧Hid (wr.heap[w.heap.size+1]?=some (.cells #[.slice a5 i c5] 43 (0,0)))∧Hid (wr.heap[w.heap.size]?=some (.cells #[.slice none 0 0] 43 (0,0)))∧Hid (Below w.heap.size w wr)) (fun v _=>n - (intOf v).toNat)
 case atStart=>exact ⟨0,none,0,[],by omega,rfl,rfl,rfl,dRow_nil _ _,kA.out,kR.out,A0.out⟩
 case round =>
  clear kA kR A0
  obtain ⟨i,a5,c5,R,hi,rfl,hRi,HRM,D4,k4,kr4,B4⟩:=hrel
  have SH4:=hide (HSH.out.below B4.out lr)
  have hw4:w.heap.size+2≤wr.heap.size:=heap_lt k4.out
  have h3:=SH4.out.c3
  have hbl:=SH4.out.lt
  by_cases hlt:i<n
  ·obtain ⟨x,hx⟩:∃ x,made[i]?=some x:=⟨_,List.getElem?_eq_getElem (by rw [← HN.out];exact hlt)⟩
   obtain ⟨j,m,hf,hm,e1,e2,e3,e4,e5⟩:=rel_at HREL.out hx
   have hro:=SH4.out.ror
   have hrm:=SH4.out.rmd
   rw [← HN.out] at hro
   rw [← HNN.out] at hrm
   obtain ⟨go,co',e⟩:=cu_some hro (by omega)
   simp only [Value.slice.injEq,true_and] at e
   obtain ⟨rfl,rfl⟩:=e
   have hjN:j<N:=by rw [HNN.out];exact (List.getElem?_eq_some_iff.1 hm).1
   obtain ⟨gm,cm',e⟩:=cu_some hrm (by omega)
   simp only [Value.slice.injEq,true_and] at e
   obtain ⟨rfl,rfl⟩:=e
   have oc:wr.cell? ⟨go,i,none⟩=some (.string x.name):=(own_cell hro (by rw [strV,List.getElem?_map,List.getElem?_map,hx];rfl)).1
   have hgo:=(own_lt hro).2
   have hgm:=(own_lt hrm).2
   have h2:=SH4.out.c2
   have hsn:=SH4.out.seen m (List.mem_of_getElem? hm) e2
   obtain ⟨sa,sc,hsv⟩:=own_sliceM hsn
   obtain ⟨rc,hrc⟩:∃ rc,rc=(resE x).code:=⟨_,rfl⟩
   obtain ⟨rt,hrt⟩:∃ rt,rt=(resE x).text:=⟨_,rfl⟩
   obtain ⟨ns,hns⟩:∃ ns,ns=x.looks.length:=⟨_,rfl⟩
   rw [e5] at hsv hsn
   rw [hsv,← hns] at hsn
   have q0:wr.cell? ⟨gm,j*6,none⟩=some (.string x.name):=by have:=sm_cell (by rw [← HNN.out];exact hrm) hm 0 (by omega) rfl;rw [e1] at this;exact this
   have q1:wr.cell? ⟨gm,j*6+1,none⟩=some (.int .i64 rc):=by have:=sm_cell (by rw [← HNN.out];exact hrm) hm 1 (by omega) rfl;rw [e3,← hrc] at this;exact this
   have q2:wr.cell? ⟨gm,j*6+2,none⟩=some (.string rt):=by have:=sm_cell (by rw [← HNN.out];exact hrm) hm 2 (by omega) rfl;rw [e4,← hrt] at this;exact this
   have q3:wr.cell? ⟨gm,j*6+3,none⟩=some (.slice none 0 0):=sm_cell (by rw [← HNN.out];exact hrm) hm 3 (by omega) rfl
   have q4:wr.cell? ⟨gm,j*6+4,none⟩=some (.slice sa ns sc):=by have:=sm_cell (by rw [← HNN.out];exact hrm) hm 4 (by omega) rfl;rw [hsv,← hns] at this;exact this
   have q5:wr.cell? ⟨gm,j*6+5,none⟩=some (.bool true):=by have:=sm_cell (by rw [← HNN.out];exact hrm) hm 5 (by omega) rfl;rw [e2] at this;exact this
   have SK:Hid (∀ V,Below wr.heap.size wr V→V.cell? ⟨hb,2,none⟩=some (.slice (some ⟨gm,0,none⟩) N cm)∧V.cell? ⟨hb,3,none⟩=some (.slice (some ⟨go,0,none⟩) n co)∧V.cell? ⟨go,i,none⟩=some (.string x.name)∧V.cell? ⟨gm,j*6,none⟩=some (.string x.name)∧V.cell? ⟨gm,j*6+1,none⟩=some (.int .i64 rc)∧V.cell? ⟨gm,j*6+2,none⟩=some (.string rt)∧V.cell? ⟨gm,j*6+3,none⟩=some (.slice none 0 0)∧V.cell? ⟨gm,j*6+4,none⟩=some (.slice sa ns sc)∧V.cell? ⟨gm,j*6+5,none⟩=some (.bool true)):=fun V hV=>⟨(hV.cell (p:=⟨hb,2,none⟩) hbl).trans h2,(hV.cell (p:=⟨hb,3,none⟩) hbl).trans h3,(hV.cell (p:=⟨go,i,none⟩) hgo).trans oc,(hV.cell (p:=⟨gm,_,none⟩) hgm).trans q0,(hV.cell (p:=⟨gm,_,none⟩) hgm).trans q1,(hV.cell (p:=⟨gm,_,none⟩) hgm).trans q2,(hV.cell (p:=⟨gm,_,none⟩) hgm).trans q3,(hV.cell (p:=⟨gm,_,none⟩) hgm).trans q4,(hV.cell (p:=⟨gm,_,none⟩) hgm).trans q5⟩
   have CT:Hid (∀ V,Below wr.heap.size wr V→Calls Tryz.prog 101 #[.pointer (some ⟨hb,0,none⟩),.string x.name] V fun e w'=>e=.returned (.int .i64 (j:Int))∧w'=V):=fun V hV=>by
    have h:=SH4.out.below hV lr 
    refine (find_box V x.name B h.c2 h.rmd (by rw [← HNN.out];omega)).mono fun e w' ⟨he,hw⟩=>⟨?_,hw⟩
    rw [he,hf]
    rfl
   have HX:=hide hx
   have HRC:=hide hrc
   have HRT:=hide hrt
   have HNS:=hide hns
   have HSN:=hide hsn
   have hj0:(0:Int)≤(j:Int):=by omega
   have hjI:(j:Int)<N:=by omega
   have hi0:(0:Int)≤(i:Int):=by omega
   have hiI:(i:Int)<n:=by omega
   clear hro hrm hsn hsv hx hf hm e1 e2 e3 e4 e5 hrc hrt hns
   go_upto_region 5 with fail
   go_cut [5] (fun s wx=>s=.pointer (some ⟨wr.heap.size,0,none⟩)∧wx=(wr.alloc (.cells #[.string x.name,.int .i64 rc,.string rt,.slice none 0 0,.slice sa ns sc,.bool true] 146)).drew)
   case first =>
    clear h2 h3 oc q0 q1 q2 q3 q4 q5
    go_region_held3 (fun V=>V.cell? ⟨hb,2,none⟩=some (.slice (some ⟨gm,0,none⟩) N cm)∧V.cell? ⟨hb,3,none⟩=some (.slice (some ⟨go,0,none⟩) n co)∧V.cell? ⟨go,i,none⟩=some (.string x.name)∧V.cell? ⟨gm,j*6,none⟩=some (.string x.name)∧V.cell? ⟨gm,j*6+1,none⟩=some (.int .i64 rc)∧V.cell? ⟨gm,j*6+2,none⟩=some (.string rt)∧V.cell? ⟨gm,j*6+3,none⟩=some (.slice none 0 0)∧V.cell? ⟨gm,j*6+4,none⟩=some (.slice sa ns sc)∧V.cell? ⟨gm,j*6+5,none⟩=some (.bool true)) (first | exact SK.out _ (Below.refl _ _) | exact SK.out _ (Below.refl _ _).drew | exact SK.out _ ((Below.refl _ _).drew.alloc lr _) | exact SK.out _ ((Below.refl _ _).alloc lr _).drew | exact SK.out _ ((((((((Below.refl wr.heap.size wr).drew.alloc lr _).setCell lr _).setCell lr _).setCell lr _).setCell lr _).setCell lr _).setCell lr _)) (first
     | (go_at_call 101;refine (CT.out _ (by first | exact (Below.refl _ _).drew | exact Below.refl _ _ | exact (Below.refl _ _).drew.alloc lr _)).mono ?_;rintro e w5 ⟨rfl,rfl⟩))
    all_goals
     go_wp2_with fail
     go_meet
     exact ⟨rfl,rfl⟩
   case rest =>
   obtain ⟨rfl,rfl⟩:=hcut
   have B5:=hide ((Below.refl wr.heap.size wr).alloc lr (.cells #[.string x.name,.int .i64 rc,.string rt,.slice none 0 0,.slice sa ns sc,.bool true] 146)).drew
   have m5:Hid ((wr.alloc (.cells #[.string x.name,.int .i64 rc,.string rt,.slice none 0 0,.slice sa ns sc,.bool true] 146)).drew.heap[wr.heap.size]?=some (.cells #[.string x.name,.int .i64 rc,.string rt,.slice none 0 0,.slice sa ns sc,.bool true] 146 (0,0))):=heap_alloc_new wr _
   have hz5:(wr.alloc (.cells #[.string x.name,.int .i64 rc,.string rt,.slice none 0 0,.slice sa ns sc,.bool true] 146)).drew.heap.size=wr.heap.size+1:=by simp [World.drew]
   clear h2 h3 oc q0 q1 q2 q3 q4 q5 SK CT
   generalize (wr.alloc (.cells #[.string x.name,.int .i64 rc,.string rt,.slice none 0 0,.slice sa ns sc,.bool true] 146)).drew=W5 at B5 m5 hz5 ⊢
   have p0:W5.cell? ⟨wr.heap.size,0,none⟩=some (.string x.name):=by simp [World.cell?,m5.out]
   have A6:=hide ((Below.refl W5.heap.size W5).alloc lr (.cells #[.string x.name,.int .i64 0,.int .i64 0,.string ⟨#[]⟩,.slice none 0 0,.slice none 0 0] 86))
   have B6:=hide (B5.out.trans (A6.out.mono B5.out.size))
   have X6:Hid (DBox (W5.alloc (.cells #[.string x.name,.int .i64 0,.int .i64 0,.string ⟨#[]⟩,.slice none 0 0,.slice none 0 0] 86)) (wr.heap.size+1) (.string x.name) (.int .i64 0) (.int .i64 0) (.string ⟨#[]⟩) (.slice none 0 0) (.slice none 0 0)):=by
    have h:=dbox_new W5 (.string x.name) (.int .i64 0) (.int .i64 0) (.string ⟨#[]⟩) (.slice none 0 0) (.slice none 0 0) 86
    rw [hz5] at h
    exact h
   have m6:Hid ((W5.alloc (.cells #[.string x.name,.int .i64 0,.int .i64 0,.string ⟨#[]⟩,.slice none 0 0,.slice none 0 0] 86)).heap[wr.heap.size]?=some (.cells #[.string x.name,.int .i64 rc,.string rt,.slice none 0 0,.slice sa ns sc,.bool true] 146 (0,0))):=(A6.out.block _ (by omega)).trans m5.out
   have hz6:(W5.alloc (.cells #[.string x.name,.int .i64 0,.int .i64 0,.string ⟨#[]⟩,.slice none 0 0,.slice none 0 0] 86)).heap.size=wr.heap.size+2:=by simp [hz5]
   go_upto_region 7 with fail
   generalize W5.alloc (.cells #[.string x.name,.int .i64 0,.int .i64 0,.string ⟨#[]⟩,.slice none 0 0,.slice none 0 0] 86)=W6 at A6 B6 X6 m6 hz6 ⊢
   clear p0 B5 m5 A6 hz5
   have SH6:=hide (SH4.out.below B6.out lr)
   have BW6:=hide (B4.out.trans (B6.out.mono (by omega)))
   have SK:Hid (∀ V,Below W6.heap.size W6 V→V.cell? ⟨hb,0,none⟩=some (.slice a0 S.n0 c0)∧V.cell? ⟨hb,1,none⟩=some (.slice a1 S.n1 c1)∧V.cell? ⟨wr.heap.size,0,none⟩=some (.string x.name)):=fun V hV=>⟨(hV.cell (p:=⟨hb,0,none⟩) SH6.out.lt).trans SH6.out.c0,(hV.cell (p:=⟨hb,1,none⟩) SH6.out.lt).trans SH6.out.c1,(hV.cell (p:=⟨wr.heap.size,0,none⟩) (by show wr.heap.size<_;omega)).trans (by simp [World.cell?,m6.out])⟩
   obtain ⟨T,hT⟩:∃ T,T=idxI (atI (nm1 S.f1) S.n1 x.name):=⟨_,rfl⟩
   have CT:Hid (∀ V,Below W6.heap.size W6 V→Calls Tryz.prog 87 #[.agg #[.slice a0 S.n0 c0,.slice a1 S.n1 c1],.string x.name] V fun e w'=>e=.returned (.int .i64 T)∧Below V.heap.size V w'):=fun V hV=>by
    rw [hT]
    exact l2Target_at a0 S.n0 c0 a1 S.n1 c1 S.f1 x.name V (by have:=HOK.out.small;omega) (V1.out.below (BW6.out.trans (hV.mono BW6.out.size)) lr)
   have HT:=hide hT
   clear hT
   go_region_held3 (fun V=>V.cell? ⟨hb,0,none⟩=some (.slice a0 S.n0 c0)∧V.cell? ⟨hb,1,none⟩=some (.slice a1 S.n1 c1)∧V.cell? ⟨wr.heap.size,0,none⟩=some (.string x.name)) (first | exact SK.out _ (Below.refl _ _) | exact SK.out _ (Below.refl _ _).drew | exact SK.out _ D7.out) (first
    | (go_at_call 87;refine (CT.out _ (by first | exact (Below.refl _ _).drew | exact Below.refl _ _)).mono ?_;rintro e w7 ⟨rfl,hB7⟩;have D7:Hid (Below W6.heap.size W6 w7):=⟨hB7.os,hB7.tape,hB7.output,hB7.size,hB7.block⟩;clear hB7))
   have B7:=hide (B6.out.trans (D7.out.mono B6.out.size))
   have X7:=hide (X6.out.below D7.out X6.out.lt)
   have m7:=hide ((D7.out.block _ (heap_lt m6.out)).trans m6.out)
   have hz7:wr.heap.size+2≤w7.heap.size:=by have:=D7.out.size;omega
   have k7:=hide ((B7.out.block _ (heap_lt k4.out)).trans k4.out)
   have kr7:=hide ((B7.out.block _ (heap_lt kr4.out)).trans kr4.out)
   have SH7:=hide (SH4.out.below B7.out lr)
   have BW7:=hide (B4.out.trans (B7.out.mono (by omega)))
   have hmem:=List.mem_of_getElem? HX.out
   have HEG:=hide (HPG.out.ents x hmem)
   clear D7 SK CT X6 m6 SH6 BW6 B6 hz6 hmem
   rcases HEG.out.kind with ⟨hk,hcode,hlk,si,hsi,htx⟩ | ⟨hk,hcode,htx,hlk,hs0,hs1⟩ | ⟨hk,hs0,hs1⟩
   ·have HK:=hide hk
    have HCD:=hide hcode
    have hts:=src_not_tgt HOK.out hsi
    have HRX:Hid (rt=x.text):=by show rt=x.text;rw [HRT.out];unfold resE;rw [if_neg (by omega)]
    have hsi0:(0:Int)≤(si:Int):=by omega
    clear hk hcode htx
    have SK:Hid (∀ V,Below w7.heap.size w7 V→V.cell? ⟨hb,0,none⟩=some (.slice a0 S.n0 c0)∧V.cell? ⟨hb,1,none⟩=some (.slice a1 S.n1 c1)∧V.cell? ⟨wr.heap.size,0,none⟩=some (.string x.name)):=fun V hV=>⟨(hV.cell (p:=⟨hb,0,none⟩) SH7.out.lt).trans SH7.out.c0,(hV.cell (p:=⟨hb,1,none⟩) SH7.out.lt).trans SH7.out.c1,(hV.cell (p:=⟨wr.heap.size,0,none⟩) (by show wr.heap.size<_;omega)).trans (by simp [World.cell?,m7.out])⟩
    have CT:Hid (∀ V,Below w7.heap.size w7 V→Calls Tryz.prog 86 #[.agg #[.slice a0 S.n0 c0,.slice a1 S.n1 c1],.string x.name] V fun e w'=>e=.returned (.int .i64 (si:Int))∧Below V.heap.size V w'):=fun V hV=>by
     have h:=l2Source_at a0 S.n0 c0 a1 S.n1 c1 S.f0 x.name V (by have:=HOK.out.small;omega) (V0.out.below (BW7.out.trans (hV.mono BW7.out.size)) lr)
     rw [hsi] at h
     exact h
    have hTT:T=-1:=by rw [HT.out,hts];rfl
    subst hTT
    go_wp2_with fail
    go_region_held3 (fun V=>V.cell? ⟨hb,0,none⟩=some (.slice a0 S.n0 c0)∧V.cell? ⟨hb,1,none⟩=some (.slice a1 S.n1 c1)∧V.cell? ⟨wr.heap.size,0,none⟩=some (.string x.name)) (first | exact SK.out _ (Below.refl _ _) | exact SK.out _ (Below.refl _ _).drew | exact SK.out _ D8.out) (first
     | (go_at_call 86;refine (CT.out _ (by first | exact (Below.refl _ _).drew | exact Below.refl _ _)).mono ?_;rintro e w8 ⟨rfl,hB8⟩;have D8:Hid (Below w7.heap.size w7 w8):=⟨hB8.os,hB8.tape,hB8.output,hB8.size,hB8.block⟩;clear hB8))
    have X8:=hide (X7.out.below D8.out X7.out.lt)
    have k8:=hide ((D8.out.block _ (heap_lt k7.out)).trans k7.out)
    have kr8:=hide ((D8.out.block _ (heap_lt kr7.out)).trans kr7.out)
    have B8:=hide (B7.out.trans (D8.out.mono B7.out.size))
    obtain ⟨d1,df1⟩:=X8.out.c1
    obtain ⟨d3,df3⟩:=X8.out.c3
    have m8:=(D8.out.block _ (heap_lt m7.out)).trans m7.out
    have q2:w8.cell? ⟨wr.heap.size,2,none⟩=some (.string rt):=by simp [World.cell?,m8]
    have XT:Hid (DBox ((w8.setCell ⟨wr.heap.size+1,1,none⟩ (.int .i64 1)).setCell ⟨wr.heap.size+1,3,none⟩ (.string rt)) (wr.heap.size+1) (.string x.name) (.int .i64 x.kind) (.int .i64 x.code) (.string x.text) (.slice none 0 0) (.slice none 0 0)):=by
     show DBox _ _ _ _ _ _ _ _
     rw [HK.out,HCD.out,← HRX.out]
     exact (X8.out.set1 (.int .i64 1)).set3 (.string rt)
    have ST:=hide (dsub_nil (S:=S) (made:=made) (x:=x) (by unfold actE;rw [if_neg (by rw [HK.out];decide)]) hlk ((w8.setCell ⟨wr.heap.size+1,1,none⟩ (.int .i64 1)).setCell ⟨wr.heap.size+1,3,none⟩ (.string rt)) wr.heap.size)
    have kT:Hid (((w8.setCell ⟨wr.heap.size+1,1,none⟩ (.int .i64 1)).setCell ⟨wr.heap.size+1,3,none⟩ (.string rt)).heap[w.heap.size+1]?=_):=(Below.heap_setCell _ _ _ _ (show w.heap.size+1≠wr.heap.size+1 by omega)).trans ((Below.heap_setCell _ _ _ _ (show w.heap.size+1≠wr.heap.size+1 by omega)).trans k8.out)
    have krT:Hid (((w8.setCell ⟨wr.heap.size+1,1,none⟩ (.int .i64 1)).setCell ⟨wr.heap.size+1,3,none⟩ (.string rt)).heap[w.heap.size]?=_):=(Below.heap_setCell _ _ _ _ (show w.heap.size≠wr.heap.size+1 by omega)).trans ((Below.heap_setCell _ _ _ _ (show w.heap.size≠wr.heap.size+1 by omega)).trans kr8.out)
    have BT:=hide ((B8.out.setCell (p:=⟨wr.heap.size+1,1,none⟩) (Nat.le_succ _) (.int .i64 1)).setCell (p:=⟨wr.heap.size+1,3,none⟩) (Nat.le_succ _) (.string rt))
    clear m8
    go_upto_region 24 with fail
    generalize ((w8.setCell ⟨wr.heap.size+1,1,none⟩ (.int .i64 1)).setCell ⟨wr.heap.size+1,3,none⟩ (.string rt))=W8 at XT ST kT krT BT ⊢
    clear d1 df1 d3 df3 q2 X8 k8 kr8 B8 D8 SK CT
    obtain ⟨t0,_⟩:=XT.out.c0
    obtain ⟨t1,_⟩:=XT.out.c1
    obtain ⟨t2,_⟩:=XT.out.c2
    obtain ⟨t3,_⟩:=XT.out.c3
    obtain ⟨t4,_⟩:=XT.out.c4
    obtain ⟨t5,_⟩:=XT.out.c5
    have kc:W8.cell? ⟨w.heap.size+1,0,none⟩=some (.slice a5 i c5):=by simp [World.cell?,kT.out]
    have AL:=hide ((Below.refl W8.heap.size W8).alloc lr (.cells #[.string x.name,.int .i64 x.kind,.int .i64 x.code,.string x.text,.slice none 0 0,.slice none 0 0] 86))
    have DA:=hide (D4.out.below (BT.out.trans (AL.out.mono BT.out.size)) lr)
    have SA:=hide (ST.out.below AL.out lr)
    have kA:=hide ((AL.out.block _ (heap_lt kT.out)).trans kT.out)
    have krA:=hide ((AL.out.block _ (heap_lt krT.out)).trans krT.out)
    have BA:=hide (B4.out.trans ((BT.out.trans (AL.out.mono BT.out.size)).mono (by omega)))
    have OW:Hid (World.ownsRow (W8.alloc (.cells #[.string x.name,.int .i64 x.kind,.int .i64 x.code,.string x.text,.slice none 0 0,.slice none 0 0] 86)) (w.heap.size+2) 86 6 (.slice a5 i c5) i (R.flatMap ddV)):=by have h:=DA.out.own;rw [hRi] at h;exact h
    have hvb:Hid (∀ j,(Value.slice a5 i c5).ownBlock=some j→w.heap.size+2≤j):=fun j e=>(OW.out.lt j e).1
    have hzA:(W8.alloc (.cells #[.string x.name,.int .i64 x.kind,.int .i64 x.code,.string x.text,.slice none 0 0,.slice none 0 0] 86)).heap.size=W8.heap.size+1:=by simp
    have hzT:=BT.out.size
    go_wp2_with (at_builtin;refine wpList_append_own _ rfl (.tmp 121) (.tmp 123) 41 rfl (w.heap.size+2) 86 id' (.agg #[.string ⟨#[]⟩,.int .i64 0,.int .i64 0,.string ⟨#[]⟩,.slice none 0 0,.slice none 0 0]) 6 96 Tryz.underlying41 hid hid0 hid1 hid2 rfl (by decide) (.slice a5 i c5) i (R.flatMap ddV) (by simp [Act.eval]) OW.out ⟨W8.heap.size,0,none⟩ 1 1 [.string x.name,.int .i64 x.kind,.int .i64 x.code,.string x.text,.slice none 0 0,.slice none 0 0] (by simp [Act.eval]) rfl (six_at W8 _ _ _ _ _ _ _) (by simp [Value.oneCell']) (by unfold maxLen;omega) (by omega) (by omega) ?_;intro v' w9 hown hgrow _;obtain ⟨a7,c7,rfl⟩:=own_sliceM hown;have O9:=hide hown;have G9:=hide hgrow;have k9:=hide ((hgrow.block _ (heap_lt kA.out) (fun e=>by have:=hvb.out _ e.symm;omega)).trans kA.out);have g9:w9.cell? ⟨w.heap.size+1,0,none⟩=some (.slice a5 i c5):=(by simp [World.cell?,k9.out]);have f9:w9.frozen? ⟨w.heap.size+1,0,none⟩=false:=(by simp [World.frozen?,k9.out]);have l9:=heap_lt k9.out;clear hown hgrow)
    have D9:Hid (DRow w9 (w.heap.size+2) (.slice a7 (i+1) c7) (R++[(deedE S made x,.slice none 0 0,.slice none 0 0)])):=DRow.more D4.out DA.out (by omega) SA.out (by rw [hRi];exact O9.out) G9.out
    have kr9:=hide ((G9.out.block _ (heap_lt krA.out) (fun e=>by have:=hvb.out _ e.symm;omega)).trans krA.out)
    have B9:=hide (Below.grown BA.out G9.out (by omega) (fun j e=>by have:=hvb.out j e;omega))
    have D10:=hide (D9.out.set (p:=⟨w.heap.size+1,0,none⟩) (e:=43) (.inl (Nat.lt_succ_self _)) (.slice a7 (i+1) c7))
    have k10:Hid ((w9.setCell ⟨w.heap.size+1,0,none⟩ (.slice a7 (i+1) c7)).heap[w.heap.size+1]?=some (.cells #[.slice a7 (i+1) c7] 43 (0,0))):=heap_setCell_at k9.out _
    have kr10:Hid ((w9.setCell ⟨w.heap.size+1,0,none⟩ (.slice a7 (i+1) c7)).heap[w.heap.size]?=some (.cells #[.slice none 0 0] 43 (0,0))):=(Below.heap_setCell _ _ _ _ (show w.heap.size≠w.heap.size+1 by omega)).trans kr9.out
    have B10:=hide (B9.out.setCell (p:=⟨w.heap.size+1,0,none⟩) (Nat.le_succ _) (.slice a7 (i+1) c7))
    refine ⟨⟨i+1,a7,c7,_,by omega,by go_num,by rw [List.length_append,hRi];rfl,?_,D10.out,k10.out,kr10.out,B10.out⟩,by simp [intOf];omega⟩
    show (R++[((deedE S made x,.slice none 0 0,.slice none 0 0):DR)]).map (·.1)=_
    rw [List.map_append,HRM.out,List.take_add_one,HX.out]
    simp
   ·have HK:=hide hk
    have HCD:=hide hcode
    have HTX:=hide htx
    clear hk hcode htx
    have SK:Hid (∀ V,Below w7.heap.size w7 V→V.cell? ⟨hb,0,none⟩=some (.slice a0 S.n0 c0)∧V.cell? ⟨hb,1,none⟩=some (.slice a1 S.n1 c1)∧V.cell? ⟨wr.heap.size,0,none⟩=some (.string x.name)):=fun V hV=>⟨(hV.cell (p:=⟨hb,0,none⟩) SH7.out.lt).trans SH7.out.c0,(hV.cell (p:=⟨hb,1,none⟩) SH7.out.lt).trans SH7.out.c1,(hV.cell (p:=⟨wr.heap.size,0,none⟩) (by show wr.heap.size<_;omega)).trans (by simp [World.cell?,m7.out])⟩
    have CT:Hid (∀ V,Below w7.heap.size w7 V→Calls Tryz.prog 86 #[.agg #[.slice a0 S.n0 c0,.slice a1 S.n1 c1],.string x.name] V fun e w'=>e=.returned (.int .i64 (-1))∧Below V.heap.size V w'):=fun V hV=>by
     have h:=l2Source_at a0 S.n0 c0 a1 S.n1 c1 S.f0 x.name V (by have:=HOK.out.small;omega) (V0.out.below (BW7.out.trans (hV.mono BW7.out.size)) lr)
     rw [hs0] at h
     exact h
    have hTT:T=-1:=by rw [HT.out,hs1];rfl
    subst hTT
    go_wp2_with fail
    go_region_held3 (fun V=>V.cell? ⟨hb,0,none⟩=some (.slice a0 S.n0 c0)∧V.cell? ⟨hb,1,none⟩=some (.slice a1 S.n1 c1)∧V.cell? ⟨wr.heap.size,0,none⟩=some (.string x.name)) (first | exact SK.out _ (Below.refl _ _) | exact SK.out _ (Below.refl _ _).drew | exact SK.out _ D8.out) (first
     | (go_at_call 86;refine (CT.out _ (by first | exact (Below.refl _ _).drew | exact Below.refl _ _)).mono ?_;rintro e w8 ⟨rfl,hB8⟩;have D8:Hid (Below w7.heap.size w7 w8):=⟨hB8.os,hB8.tape,hB8.output,hB8.size,hB8.block⟩;clear hB8))
    have X8:=hide (X7.out.below D8.out X7.out.lt)
    have k8:=hide ((D8.out.block _ (heap_lt k7.out)).trans k7.out)
    have kr8:=hide ((D8.out.block _ (heap_lt kr7.out)).trans kr7.out)
    have B8:=hide (B7.out.trans (D8.out.mono B7.out.size))
    obtain ⟨d1,df1⟩:=X8.out.c1
    have XT:Hid (DBox (w8.setCell ⟨wr.heap.size+1,1,none⟩ (.int .i64 2)) (wr.heap.size+1) (.string x.name) (.int .i64 x.kind) (.int .i64 x.code) (.string x.text) (.slice none 0 0) (.slice none 0 0)):=by
     show DBox _ _ _ _ _ _ _ _
     rw [HK.out,HCD.out,HTX.out]
     exact X8.out.set1 (.int .i64 2)
    have ST:=hide (dsub_nil (S:=S) (made:=made) (x:=x) (by unfold actE;rw [if_neg (by rw [HK.out];decide)]) hlk (w8.setCell ⟨wr.heap.size+1,1,none⟩ (.int .i64 2)) wr.heap.size)
    have kT:Hid ((w8.setCell ⟨wr.heap.size+1,1,none⟩ (.int .i64 2)).heap[w.heap.size+1]?=_):=(Below.heap_setCell _ _ _ _ (by show w.heap.size+1≠wr.heap.size+1;omega)).trans k8.out
    have krT:Hid ((w8.setCell ⟨wr.heap.size+1,1,none⟩ (.int .i64 2)).heap[w.heap.size]?=_):=(Below.heap_setCell _ _ _ _ (by show w.heap.size≠wr.heap.size+1;omega)).trans kr8.out
    have BT:=hide (B8.out.setCell (p:=⟨wr.heap.size+1,1,none⟩) (Nat.le_succ _) (.int .i64 2))
    go_upto_region 24 with fail
    generalize w8.setCell ⟨wr.heap.size+1,1,none⟩ (.int .i64 2)=W8 at XT ST kT krT BT ⊢
    clear d1 df1 X8 k8 kr8 B8 D8 SK CT
    obtain ⟨t0,_⟩:=XT.out.c0
    obtain ⟨t1,_⟩:=XT.out.c1
    obtain ⟨t2,_⟩:=XT.out.c2
    obtain ⟨t3,_⟩:=XT.out.c3
    obtain ⟨t4,_⟩:=XT.out.c4
    obtain ⟨t5,_⟩:=XT.out.c5
    have kc:W8.cell? ⟨w.heap.size+1,0,none⟩=some (.slice a5 i c5):=by simp [World.cell?,kT.out]
    have AL:=hide ((Below.refl W8.heap.size W8).alloc lr (.cells #[.string x.name,.int .i64 x.kind,.int .i64 x.code,.string x.text,.slice none 0 0,.slice none 0 0] 86))
    have DA:=hide (D4.out.below (BT.out.trans (AL.out.mono BT.out.size)) lr)
    have SA:=hide (ST.out.below AL.out lr)
    have kA:=hide ((AL.out.block _ (heap_lt kT.out)).trans kT.out)
    have krA:=hide ((AL.out.block _ (heap_lt krT.out)).trans krT.out)
    have BA:=hide (B4.out.trans ((BT.out.trans (AL.out.mono BT.out.size)).mono (by omega)))
    have OW:Hid (World.ownsRow (W8.alloc (.cells #[.string x.name,.int .i64 x.kind,.int .i64 x.code,.string x.text,.slice none 0 0,.slice none 0 0] 86)) (w.heap.size+2) 86 6 (.slice a5 i c5) i (R.flatMap ddV)):=by have h:=DA.out.own;rw [hRi] at h;exact h
    have hvb:Hid (∀ j,(Value.slice a5 i c5).ownBlock=some j→w.heap.size+2≤j):=fun j e=>(OW.out.lt j e).1
    have hzA:(W8.alloc (.cells #[.string x.name,.int .i64 x.kind,.int .i64 x.code,.string x.text,.slice none 0 0,.slice none 0 0] 86)).heap.size=W8.heap.size+1:=by simp
    have hzT:=BT.out.size
    go_wp2_with (at_builtin;refine wpList_append_own _ rfl (.tmp 121) (.tmp 123) 41 rfl (w.heap.size+2) 86 id' (.agg #[.string ⟨#[]⟩,.int .i64 0,.int .i64 0,.string ⟨#[]⟩,.slice none 0 0,.slice none 0 0]) 6 96 Tryz.underlying41 hid hid0 hid1 hid2 rfl (by decide) (.slice a5 i c5) i (R.flatMap ddV) (by simp [Act.eval]) OW.out ⟨W8.heap.size,0,none⟩ 1 1 [.string x.name,.int .i64 x.kind,.int .i64 x.code,.string x.text,.slice none 0 0,.slice none 0 0] (by simp [Act.eval]) rfl (six_at W8 _ _ _ _ _ _ _) (by simp [Value.oneCell']) (by unfold maxLen;omega) (by omega) (by omega) ?_;intro v' w9 hown hgrow _;obtain ⟨a7,c7,rfl⟩:=own_sliceM hown;have O9:=hide hown;have G9:=hide hgrow;have k9:=hide ((hgrow.block _ (heap_lt kA.out) (fun e=>by have:=hvb.out _ e.symm;omega)).trans kA.out);have g9:w9.cell? ⟨w.heap.size+1,0,none⟩=some (.slice a5 i c5):=(by simp [World.cell?,k9.out]);have f9:w9.frozen? ⟨w.heap.size+1,0,none⟩=false:=(by simp [World.frozen?,k9.out]);have l9:=heap_lt k9.out;clear hown hgrow)
    have D9:Hid (DRow w9 (w.heap.size+2) (.slice a7 (i+1) c7) (R++[(deedE S made x,.slice none 0 0,.slice none 0 0)])):=DRow.more D4.out DA.out (by omega) SA.out (by rw [hRi];exact O9.out) G9.out
    have kr9:=hide ((G9.out.block _ (heap_lt krA.out) (fun e=>by have:=hvb.out _ e.symm;omega)).trans krA.out)
    have B9:=hide (Below.grown BA.out G9.out (by omega) (fun j e=>by have:=hvb.out j e;omega))
    have D10:=hide (D9.out.set (p:=⟨w.heap.size+1,0,none⟩) (e:=43) (.inl (Nat.lt_succ_self _)) (.slice a7 (i+1) c7))
    have k10:Hid ((w9.setCell ⟨w.heap.size+1,0,none⟩ (.slice a7 (i+1) c7)).heap[w.heap.size+1]?=some (.cells #[.slice a7 (i+1) c7] 43 (0,0))):=heap_setCell_at k9.out _
    have kr10:Hid ((w9.setCell ⟨w.heap.size+1,0,none⟩ (.slice a7 (i+1) c7)).heap[w.heap.size]?=some (.cells #[.slice none 0 0] 43 (0,0))):=(Below.heap_setCell _ _ _ _ (show w.heap.size≠w.heap.size+1 by omega)).trans kr9.out
    have B10:=hide (B9.out.setCell (p:=⟨w.heap.size+1,0,none⟩) (Nat.le_succ _) (.slice a7 (i+1) c7))
    refine ⟨⟨i+1,a7,c7,_,by omega,by go_num,by rw [List.length_append,hRi];rfl,?_,D10.out,k10.out,kr10.out,B10.out⟩,by simp [intOf];omega⟩
    show (R++[((deedE S made x,.slice none 0 0,.slice none 0 0):DR)]).map (·.1)=_
    rw [List.map_append,HRM.out,List.take_add_one,HX.out]
    simp
   ·have HK:=hide hk
    have hRE:resE x=⟨x.code,x.text,[]⟩:=by unfold resE;rw [if_neg (by omega)]
    have HRX:Hid (rt=x.text∧rc=x.code):=⟨by rw [HRT.out,hRE],by rw [HRC.out,hRE]⟩
    have hns2:ns≤200:=by rw [HNS.out];exact HEG.out.looks
    have htg:=(atI_some hs1).1
    have hTT:T=(x.tg:Int):=by rw [HT.out,hs1];rfl
    have hAE:actE S x=(S.f1 x.tg).actN:=by unfold actE;rw [if_pos hk]
    obtain ⟨n4,hn4⟩:∃ n4,n4=(S.f1 x.tg).actN:=⟨_,rfl⟩
    have HAE:Hid (actE S x=n4):=hAE.trans hn4.symm
    have hn4m:n4≤1048576:=by rw [hn4];exact HFT.out x.tg htg
    have hn41:1≤n4:=by obtain ⟨_,hv,_⟩:=valid_parts (HOK.out.act x.tg htg);omega
    obtain ⟨tb,tf,ha1,hrt⟩:=V1.out.resolve_left (by omega)
    subst hTT ha1
    obtain ⟨-,ia,ic,hcell,hsl⟩:=hrt.2 x.tg htg
    have htbl:=hrt.1
    obtain ⟨ib,io,rfl,hri⟩:=hsl.resolve_left (by omega)
    rw [← hn4] at hcell hri
    have HRI:=hide hri
    have HCELL:=hide hcell
    clear hk hRE hAE hn4 hs0 hs1 hrt hsl hri hcell
    have q1:w7.cell? ⟨wr.heap.size,1,none⟩=some (.int .i64 rc):=by simp [World.cell?,m7.out]
    have q2:w7.cell? ⟨wr.heap.size,2,none⟩=some (.string rt):=by simp [World.cell?,m7.out]
    obtain ⟨d1,df1⟩:=X7.out.c1
    obtain ⟨d2,df2⟩:=X7.out.c2
    obtain ⟨d3,df3⟩:=X7.out.c3
    have hdl:=X7.out.lt
    have htg0:(0:Int)≤(x.tg:Int):=by omega
    have X9:=hide (((X7.out.set1 (.int .i64 3)).set2 (.int .i64 rc)).set3 (.string rt))
    have m9:Hid ((((w7.setCell ⟨wr.heap.size+1,1,none⟩ (.int .i64 3)).setCell ⟨wr.heap.size+1,2,none⟩ (.int .i64 rc)).setCell ⟨wr.heap.size+1,3,none⟩ (.string rt)).heap[wr.heap.size]?=some (.cells #[.string x.name,.int .i64 rc,.string rt,.slice none 0 0,.slice sa ns sc,.bool true] 146 (0,0))):=(Below.heap_setCell _ _ _ _ (show wr.heap.size≠wr.heap.size+1 by omega)).trans ((Below.heap_setCell _ _ _ _ (show wr.heap.size≠wr.heap.size+1 by omega)).trans ((Below.heap_setCell _ _ _ _ (show wr.heap.size≠wr.heap.size+1 by omega)).trans m7.out))
    have B9:=hide (((B7.out.setCell (p:=⟨wr.heap.size+1,1,none⟩) (Nat.le_succ _) (.int .i64 3)).setCell (p:=⟨wr.heap.size+1,2,none⟩) (Nat.le_succ _) (.int .i64 rc)).setCell (p:=⟨wr.heap.size+1,3,none⟩) (Nat.le_succ _) (.string rt))
    have hz9:wr.heap.size+2≤(((w7.setCell ⟨wr.heap.size+1,1,none⟩ (.int .i64 3)).setCell ⟨wr.heap.size+1,2,none⟩ (.int .i64 rc)).setCell ⟨wr.heap.size+1,3,none⟩ (.string rt)).heap.size:=by simpa using hz7
    go_upto_region 12 with fail
    generalize (((w7.setCell ⟨wr.heap.size+1,1,none⟩ (.int .i64 3)).setCell ⟨wr.heap.size+1,2,none⟩ (.int .i64 rc)).setCell ⟨wr.heap.size+1,3,none⟩ (.string rt))=W9 at X9 m9 B9 hz9 ⊢
    clear d1 df1 d2 df2 d3 df3 q1 q2 hdl X7 m7 B7 k7 kr7 SH7 BW7 hz7
    have BW9:=hide (B4.out.trans (B9.out.mono (by omega)))
    have SH9:=hide (SH4.out.below B9.out lr)
    have hb1:=SH9.out.c1
    have hbl9:=SH9.out.lt
    have tc:=(BW9.out.cell (p:=⟨tb,tf+x.tg*2+1,none⟩) htbl).trans HCELL.out
    have htb9:tb<W9.heap.size:=Nat.lt_of_lt_of_le htbl BW9.out.size
    have htgI:(x.tg:Int)<(S.n1:Int):=by omega
    go_wp2_with fail
    refine (l2Program_row ib io n4 ic (S.f1 x.tg).act W9 (by omega) (HRI.out.below BW9.out lr)).mono ?_
    rintro e w10 ⟨g4,c4,rfl,hO10,hB10⟩
    have Y10:=hide (X9.out.below hB10 X9.out.lt)
    obtain ⟨d4,df4⟩:=Y10.out.c4
    have X11:=hide (Y10.out.set4 (.slice (some ⟨g4,0,none⟩) n4 c4))
    have m11:Hid ((w10.setCell ⟨wr.heap.size+1,4,none⟩ (.slice (some ⟨g4,0,none⟩) n4 c4)).heap[wr.heap.size]?=some (.cells #[.string x.name,.int .i64 rc,.string rt,.slice none 0 0,.slice sa ns sc,.bool true] 146 (0,0))):=(Below.heap_setCell _ _ _ _ (show wr.heap.size≠wr.heap.size+1 by omega)).trans ((hB10.block _ (heap_lt m9.out)).trans m9.out)
    have O11:=hide (own_set (R:=wr.heap.size+1) (j:=4) (own_mono hO10 (show wr.heap.size+2≤W9.heap.size by omega)) (by omega) (.slice (some ⟨g4,0,none⟩) n4 c4))
    have B11:=hide ((B9.out.trans (hB10.mono B9.out.size)).setCell (p:=⟨wr.heap.size+1,4,none⟩) (Nat.le_succ _) (.slice (some ⟨g4,0,none⟩) n4 c4))
    have hdl10:=Y10.out.lt
    clear hO10 hB10 tc hb1
    go_wp2
    generalize w10.setCell ⟨wr.heap.size+1,4,none⟩ (.slice (some ⟨g4,0,none⟩) n4 c4)=W11 at X11 m11 O11 B11 ⊢
    clear d4 df4 Y10 hdl10 X9 m9 B9 BW9 SH9 hbl9 htb9 hz9
    obtain ⟨WB,hWB⟩:∃ WB,WB=wr:=⟨_,rfl⟩
    subst hWB
    go_loopw [8] (fun v wq=>∃ (k:Nat) (al:Option Addr) (cl:Nat),k≤ns∧v=.int .i64 k∧Hid (DBox wq (WB.heap.size+1) (.string x.name) (.int .i64 3) (.int .i64 rc) (.string rt) (.slice (some ⟨g4,0,none⟩) n4 c4) (.slice al k cl))∧Hid (wq.heap[WB.heap.size]?=some (.cells #[.string x.name,.int .i64 rc,.string rt,.slice none 0 0,.slice sa ns sc,.bool true] 146 (0,0)))∧Hid (wq.ownsRow (WB.heap.size+2) 162 3 (.slice (some ⟨g4,0,none⟩) n4 c4) n4 (insL (S.f1 x.tg).act n4))∧Hid (wq.ownsRow (WB.heap.size+2) 151 4 (.slice al k cl) k (lkV made (x.looks.take k)))∧Hid (Below WB.heap.size WB wq)) (fun v _=>ns - (intOf v).toNat)
    case atStart=>exact ⟨0,none,0,by omega,rfl,X11.out,m11.out,O11.out,World.ownsRow_nil _ _ _ _,B11.out⟩
    case round =>
     clear X11 m11 O11 B11
     obtain ⟨k,al,cl,hk,rfl,X12,m12,O12,P12,B12⟩:=hrel
     have m4:wr.cell? ⟨WB.heap.size,4,none⟩=some (.slice sa ns sc):=by simp [World.cell?,m12.out]
     have ml:=heap_lt m12.out
     have hz12:WB.heap.size+2≤wr.heap.size:=X12.out.lt
     by_cases hlk:k<ns
     ·obtain ⟨l,hl⟩:∃ l,x.looks[k]?=some l:=⟨_,List.getElem?_eq_getElem (by rw [← HNS.out];exact hlk)⟩
      obtain ⟨sg,sc',e⟩:=cu_some HSN.out (by omega)
      simp only [Value.slice.injEq,true_and] at e
      obtain ⟨rfl,rfl⟩:=e
      have hsg:=(own_lt HSN.out).2
      have sn:∀ j,j<3→∀ u,[Value.string l.name,.bool l.ask,.bool l.has][j]?=some u→wr.cell? ⟨sg,k*3+j,none⟩=some u:=fun j hj u hu=>(B12.out.cell (p:=⟨sg,k*3+j,none⟩) hsg).trans (seen_cell (by have h:=HSN.out;rw [HNS.out] at h;exact h) hl j hj hu)
      have f0:=sn 0 (by omega) _ rfl
      have f1:=sn 1 (by omega) _ rfl
      have f2:=sn 2 (by omega) _ rfl
      rw [show k*3+0=k*3 by omega] at f0
      have hsgr:sg<wr.heap.size:=Nat.lt_of_lt_of_le hsg B12.out.size
      have HL:=hide hl
      have SK:Hid (∀ V,Below wr.heap.size wr V→V.cell? ⟨WB.heap.size,4,none⟩=some (.slice (some ⟨sg,0,none⟩) ns sc)∧V.cell? ⟨sg,k*3,none⟩=some (.string l.name)∧V.cell? ⟨sg,k*3+1,none⟩=some (.bool l.ask)∧V.cell? ⟨sg,k*3+2,none⟩=some (.bool l.has)):=fun V hV=>⟨(hV.cell (p:=⟨WB.heap.size,4,none⟩) ml).trans m4,(hV.cell (p:=⟨sg,_,none⟩) hsgr).trans f0,(hV.cell (p:=⟨sg,_,none⟩) hsgr).trans f1,(hV.cell (p:=⟨sg,_,none⟩) hsgr).trans f2⟩
      have hk0:(0:Int)≤(k:Int):=by omega
      have hkI:(k:Int)<ns:=by omega
      clear sn hl
      go_upto_region 16 with fail
      go_cut [9] (fun s wx=>s=.pointer (some ⟨wr.heap.size,0,none⟩)∧wx=(wr.alloc (.cells #[.string l.name,.bool l.ask,.bool l.has,.int .i64 0] 151)).drew)
      case first =>
       clear m4 f0 f1 f2
       go_region_held3 (fun V=>V.cell? ⟨WB.heap.size,4,none⟩=some (.slice (some ⟨sg,0,none⟩) ns sc)∧V.cell? ⟨sg,k*3,none⟩=some (.string l.name)∧V.cell? ⟨sg,k*3+1,none⟩=some (.bool l.ask)∧V.cell? ⟨sg,k*3+2,none⟩=some (.bool l.has)) (first | exact SK.out _ (Below.refl _ _) | exact SK.out _ (Below.refl _ _).drew | exact SK.out _ ((Below.refl _ _).drew.alloc lr _) | exact SK.out _ ((Below.refl _ _).alloc lr _).drew | exact SK.out _ ((((((Below.refl wr.heap.size wr).drew.alloc lr _).setCell lr _).setCell lr _).setCell lr _).setCell lr _)) (fail)
       all_goals
        go_wp2_with fail
        go_meet
        exact ⟨rfl,rfl⟩
      case rest =>
      obtain ⟨rfl,rfl⟩:=hcut
      have D13:=hide ((Below.refl wr.heap.size wr).alloc lr (.cells #[.string l.name,.bool l.ask,.bool l.has,.int .i64 0] 151)).drew
      have LK13:Hid ((wr.alloc (.cells #[.string l.name,.bool l.ask,.bool l.has,.int .i64 0] 151)).drew.heap[wr.heap.size]?=some (.cells #[.string l.name,.bool l.ask,.bool l.has,.int .i64 0] 151 (0,0))):=heap_alloc_new wr _
      clear m4 f0 f1 f2 SK
      generalize (wr.alloc (.cells #[.string l.name,.bool l.ask,.bool l.has,.int .i64 0] 151)).drew=W13 at D13 LK13 ⊢
      have X13:=hide (X12.out.below D13.out X12.out.lt)
      have m13:=hide ((D13.out.block _ ml).trans m12.out)
      have O13:=hide (own_below O12.out D13.out lr)
      have P13:=hide (own_below P12.out D13.out lr)
      have B13:=hide (B12.out.trans (D13.out.mono B12.out.size))
      have k1:W13.cell? ⟨wr.heap.size,1,none⟩=some (.bool l.ask):=by simp [World.cell?,LK13.out]
      go_upto_if 94 with fail
      clear k1
      cases hask:l.ask with
      | false =>
       have HLD:Hid (lnkV (lkD made l)=[.string l.name,.bool false,.bool l.has,.int .i64 0]):=by show _=_;simp [lnkV,lkD,hask]
       rw [hask] at LK13
       have l0:W13.cell? ⟨wr.heap.size,0,none⟩=some (.string l.name):=by simp [World.cell?,LK13.out]
       have l1:W13.cell? ⟨wr.heap.size,1,none⟩=some (.bool false):=by simp [World.cell?,LK13.out]
       have l2:W13.cell? ⟨wr.heap.size,2,none⟩=some (.bool l.has):=by simp [World.cell?,LK13.out]
       have l3:W13.cell? ⟨wr.heap.size,3,none⟩=some (.int .i64 0):=by simp [World.cell?,LK13.out]
       have ll:=heap_lt LK13.out
       obtain ⟨e5,ef5⟩:=X13.out.c5
       have AL:=hide ((Below.refl W13.heap.size W13).alloc lr (.cells #[.string l.name,.bool false,.bool l.has,.int .i64 0] 151))
       have XA:=hide (X13.out.below AL.out X13.out.lt)
       have mA:=hide ((AL.out.block _ (heap_lt m13.out)).trans m13.out)
       have OA:=hide (own_below O13.out AL.out lr)
       have PA:=hide (own_below P13.out AL.out lr)
       have BA:=hide (B13.out.trans (AL.out.mono B13.out.size))
       have hzA:(W13.alloc (.cells #[.string l.name,.bool false,.bool l.has,.int .i64 0] 151)).heap.size=W13.heap.size+1:=by simp
       have hzW:WB.heap.size+2≤W13.heap.size:=X13.out.lt
       go_wp2_with (at_builtin;refine wpList_append_own _ rfl (.tmp 101) (.tmp 103) 84 rfl (WB.heap.size+2) 151 il (.agg #[.string ⟨#[]⟩,.bool false,.bool false,.int .i64 0]) 4 32 Tryz.underlying84 hil hil0 hil1 hil2 rfl (by decide) (.slice al k cl) k (lkV made (x.looks.take k)) (by simp [Act.eval]) PA.out ⟨W13.heap.size,0,none⟩ 1 1 [.string l.name,.bool false,.bool l.has,.int .i64 0] (by simp [Act.eval]) rfl (four_at W13 _ _ _ _ _) (by simp [Value.oneCell']) (by unfold maxLen;omega) (by omega) (by omega) ?_;intro v' wz hown hgrow _;obtain ⟨az,cz,rfl⟩:=own_sliceM hown;rw [← HLD.out,← lkV_take made x.looks HL.out] at hown;have PZ:=hide hown;have GZ:=hide hgrow;have XZ:=hide (XA.out.grown PA.out hgrow (Nat.lt_succ_self _));obtain ⟨z5,zf5⟩:=XZ.out.c5;have zl:=XZ.out.lt;clear hown hgrow)
       have XY:=hide (XZ.out.set5 (.slice az (k+1) cz))
       have mY:Hid ((wz.setCell ⟨WB.heap.size+1,5,none⟩ (.slice az (k+1) cz)).heap[WB.heap.size]?=some (.cells #[.string x.name,.int .i64 rc,.string rt,.slice none 0 0,.slice (some ⟨sg,0,none⟩) ns sc,.bool true] 146 (0,0))):=(Below.heap_setCell _ _ _ _ (show WB.heap.size≠WB.heap.size+1 by omega)).trans ((GZ.out.block _ (heap_lt mA.out) (fun e=>by have:=(PA.out.lt _ e.symm).1;omega)).trans mA.out)
       have OY:=hide (own_set (R:=WB.heap.size+1) (j:=5) (own_kept2 OA.out PA.out GZ.out (by decide)) (by omega) (.slice az (k+1) cz))
       have PY:=hide (own_set (R:=WB.heap.size+1) (j:=5) PZ.out (by omega) (.slice az (k+1) cz))
       have BY:=hide ((Below.grown BA.out GZ.out (by omega) (fun j e=>by have:=(PA.out.lt j e).1;omega)).setCell (p:=⟨WB.heap.size+1,5,none⟩) (Nat.le_succ _) (.slice az (k+1) cz))
       exact ⟨⟨k+1,az,cz,by omega,by go_num,XY.out,mY.out,OY.out,PY.out,BY.out⟩,by simp [intOf];omega⟩
      | true =>
       obtain ⟨q,hq⟩:∃ q:Int,q=((plOf made l.name:Nat):Int):=⟨_,rfl⟩
       have HLD:Hid (lnkV (lkD made l)=[.string l.name,.bool true,.bool l.has,.int .i64 q]):=by show _=_;simp [lnkV,lkD,hask,hq]
       have k13:=hide ((B13.out.block _ (heap_lt k4.out)).trans k4.out)
       have ac:W13.cell? ⟨w.heap.size+1,0,none⟩=some (.slice a5 i c5):=by simp [World.cell?,k13.out]
       have acl:=heap_lt k13.out
       have ln0:W13.cell? ⟨wr.heap.size,0,none⟩=some (.string l.name):=by simp [World.cell?,LK13.out]
       have CA:Hid (Calls Tryz.prog 102 #[.agg #[.slice a5 i c5],.string l.name] W13 fun e w'=>e=.returned (.int .i64 q)∧Below W13.heap.size W13 w'):=by
        have hd:SlDeed W13 a5 i (dF (R.map (·.1))):=by
         have h:=D4.out.below B13.out lr 
         rw [← hRi] at h ⊢
         exact h.deeds
        have h:=l3At_any a5 i c5 (dF (R.map (·.1))) l.name W13 (by omega) hd
        rw [where_pl HPG.out HX.out (List.mem_of_getElem? HL.out) hask HRM.out,← hq] at h
        exact h
       rw [hask] at LK13
       clear hq
       go_wp2_with fail
       refine CA.out.mono ?_
       rintro e w14 ⟨rfl,hB14⟩
       have LKa:=(hB14.block _ (heap_lt LK13.out)).trans LK13.out
       have q3:w14.cell? ⟨wr.heap.size,3,none⟩=some (.int .i64 0):=by simp [World.cell?,LKa]
       have qf3:w14.frozen? ⟨wr.heap.size,3,none⟩=false:=by simp [World.frozen?,LKa]
       have ql3:=heap_lt LKa
       have LK15:Hid ((w14.setCell ⟨wr.heap.size,3,none⟩ (.int .i64 q)).heap[wr.heap.size]?=some (.cells #[.string l.name,.bool true,.bool l.has,.int .i64 q] 151 (0,0))):=heap_setCell_at LKa _
       have X15:=hide ((X13.out.below hB14 X13.out.lt).far (p:=⟨wr.heap.size,3,none⟩) (by show wr.heap.size≠WB.heap.size+1;omega) (.int .i64 q))
       have m15:Hid ((w14.setCell ⟨wr.heap.size,3,none⟩ (.int .i64 q)).heap[WB.heap.size]?=some (.cells #[.string x.name,.int .i64 rc,.string rt,.slice none 0 0,.slice (some ⟨sg,0,none⟩) ns sc,.bool true] 146 (0,0))):=(Below.heap_setCell _ _ _ _ (show WB.heap.size≠wr.heap.size by omega)).trans ((hB14.block _ (heap_lt m13.out)).trans m13.out)
       have O15:=hide (own_other (own_below O13.out hB14 lr) (b:=wr.heap.size) (fun e=>by have:=(O12.out.lt _ e).2;omega) 3 (.int .i64 q))
       have P15:=hide (own_other (own_below P13.out hB14 lr) (b:=wr.heap.size) (fun e=>by have:=(P12.out.lt _ e).2;omega) 3 (.int .i64 q))
       have B15:=hide ((B13.out.trans (hB14.mono B13.out.size)).setCell (p:=⟨wr.heap.size,3,none⟩) (by show WB.heap.size≤wr.heap.size;omega) (.int .i64 q))
       clear LKa hB14 ac ln0
       go_upto_region 19 with fail
       generalize w14.setCell ⟨wr.heap.size,3,none⟩ (.int .i64 q)=W15 at LK15 X15 m15 O15 P15 B15 ⊢
       clear q3 qf3 ql3
       have l0:W15.cell? ⟨wr.heap.size,0,none⟩=some (.string l.name):=by simp [World.cell?,LK15.out]
       have l1:W15.cell? ⟨wr.heap.size,1,none⟩=some (.bool true):=by simp [World.cell?,LK15.out]
       have l2:W15.cell? ⟨wr.heap.size,2,none⟩=some (.bool l.has):=by simp [World.cell?,LK15.out]
       have l3:W15.cell? ⟨wr.heap.size,3,none⟩=some (.int .i64 q):=by simp [World.cell?,LK15.out]
       have ll:=heap_lt LK15.out
       obtain ⟨e5,ef5⟩:=X15.out.c5
       have AL:=hide ((Below.refl W15.heap.size W15).alloc lr (.cells #[.string l.name,.bool true,.bool l.has,.int .i64 q] 151))
       have XA:=hide (X15.out.below AL.out X15.out.lt)
       have mA:=hide ((AL.out.block _ (heap_lt m15.out)).trans m15.out)
       have OA:=hide (own_below O15.out AL.out lr)
       have PA:=hide (own_below P15.out AL.out lr)
       have BA:=hide (B15.out.trans (AL.out.mono B15.out.size))
       have hzA:(W15.alloc (.cells #[.string l.name,.bool true,.bool l.has,.int .i64 q] 151)).heap.size=W15.heap.size+1:=by simp
       have hzW:WB.heap.size+2≤W15.heap.size:=X15.out.lt
       go_wp2_with (at_builtin;refine wpList_append_own _ rfl (.tmp 101) (.tmp 103) 84 rfl (WB.heap.size+2) 151 il (.agg #[.string ⟨#[]⟩,.bool false,.bool false,.int .i64 0]) 4 32 Tryz.underlying84 hil hil0 hil1 hil2 rfl (by decide) (.slice al k cl) k (lkV made (x.looks.take k)) (by simp [Act.eval]) PA.out ⟨W15.heap.size,0,none⟩ 1 1 [.string l.name,.bool true,.bool l.has,.int .i64 q] (by simp [Act.eval]) rfl (four_at W15 _ _ _ _ _) (by simp [Value.oneCell']) (by unfold maxLen;omega) (by omega) (by omega) ?_;intro v' wz hown hgrow _;obtain ⟨az,cz,rfl⟩:=own_sliceM hown;rw [← HLD.out,← lkV_take made x.looks HL.out] at hown;have PZ:=hide hown;have GZ:=hide hgrow;have XZ:=hide (XA.out.grown PA.out hgrow (Nat.lt_succ_self _));obtain ⟨z5,zf5⟩:=XZ.out.c5;have zl:=XZ.out.lt;clear hown hgrow)
       have XY:=hide (XZ.out.set5 (.slice az (k+1) cz))
       have mY:Hid ((wz.setCell ⟨WB.heap.size+1,5,none⟩ (.slice az (k+1) cz)).heap[WB.heap.size]?=some (.cells #[.string x.name,.int .i64 rc,.string rt,.slice none 0 0,.slice (some ⟨sg,0,none⟩) ns sc,.bool true] 146 (0,0))):=(Below.heap_setCell _ _ _ _ (show WB.heap.size≠WB.heap.size+1 by omega)).trans ((GZ.out.block _ (heap_lt mA.out) (fun e=>by have:=(PA.out.lt _ e.symm).1;omega)).trans mA.out)
       have OY:=hide (own_set (R:=WB.heap.size+1) (j:=5) (own_kept2 OA.out PA.out GZ.out (by decide)) (by omega) (.slice az (k+1) cz))
       have PY:=hide (own_set (R:=WB.heap.size+1) (j:=5) PZ.out (by omega) (.slice az (k+1) cz))
       have BY:=hide ((Below.grown BA.out GZ.out (by omega) (fun j e=>by have:=(PA.out.lt j e).1;omega)).setCell (p:=⟨WB.heap.size+1,5,none⟩) (Nat.le_succ _) (.slice az (k+1) cz))
       exact ⟨⟨k+1,az,cz,by omega,by go_num,XY.out,mY.out,OY.out,PY.out,BY.out⟩,by simp [intOf];omega⟩
     ·have e:k=ns:=by omega
      subst e
      have XT:Hid (DBox wr (WB.heap.size+1) (.string x.name) (.int .i64 x.kind) (.int .i64 x.code) (.string x.text) (.slice (some ⟨g4,0,none⟩) n4 c4) (.slice al k cl)):=by
       show DBox _ _ _ _ _ _ _ _
       rw [HK.out,← HRX.out.1,← HRX.out.2]
       exact X12.out
      have ST:Hid (DSub wr WB.heap.size (deedE S made x,.slice (some ⟨g4,0,none⟩) n4 c4,.slice al k cl)):=by
       refine ⟨?_,?_⟩
       ·show World.ownsRow wr WB.heap.size 162 3 (.slice (some ⟨g4,0,none⟩) n4 c4) (actE S x) (insL (S.f1 x.tg).act (actE S x))
        rw [HAE.out]
        exact own_mono O12.out (by omega)
       ·show World.ownsRow wr WB.heap.size 151 4 (.slice al k cl) x.looks.length (lnkL (lkF made x.looks) x.looks.length)
        rw [lkV_all,← HNS.out]
        have h:=P12.out
        rw [List.take_of_length_le (by rw [← HNS.out];exact Nat.le_refl _)] at h
        exact own_mono h (by omega)
      have kT:=hide ((B12.out.block _ (heap_lt k4.out)).trans k4.out)
      have krT:=hide ((B12.out.block _ (heap_lt kr4.out)).trans kr4.out)
      have BT:=B12
      go_upto_region 24 with fail
      clear m4
      obtain ⟨W8,hW8⟩:∃ W8,W8=wr:=⟨_,rfl⟩
      subst hW8
      obtain ⟨t0,_⟩:=XT.out.c0
      obtain ⟨t1,_⟩:=XT.out.c1
      obtain ⟨t2,_⟩:=XT.out.c2
      obtain ⟨t3,_⟩:=XT.out.c3
      obtain ⟨t4,_⟩:=XT.out.c4
      obtain ⟨t5,_⟩:=XT.out.c5
      have kc:W8.cell? ⟨w.heap.size+1,0,none⟩=some (.slice a5 i c5):=by simp [World.cell?,kT.out]
      have AL:=hide ((Below.refl W8.heap.size W8).alloc lr (.cells #[.string x.name,.int .i64 x.kind,.int .i64 x.code,.string x.text,.slice (some ⟨g4,0,none⟩) n4 c4,.slice al k cl] 86))
      have DA:=hide (D4.out.below (BT.out.trans (AL.out.mono BT.out.size)) lr)
      have SA:=hide (ST.out.below AL.out lr)
      have kA:=hide ((AL.out.block _ (heap_lt kT.out)).trans kT.out)
      have krA:=hide ((AL.out.block _ (heap_lt krT.out)).trans krT.out)
      have BA:=hide (B4.out.trans ((BT.out.trans (AL.out.mono BT.out.size)).mono (by omega)))
      have OW:Hid (World.ownsRow (W8.alloc (.cells #[.string x.name,.int .i64 x.kind,.int .i64 x.code,.string x.text,.slice (some ⟨g4,0,none⟩) n4 c4,.slice al k cl] 86)) (w.heap.size+2) 86 6 (.slice a5 i c5) i (R.flatMap ddV)):=by have h:=DA.out.own;rw [hRi] at h;exact h
      have hvb:Hid (∀ j,(Value.slice a5 i c5).ownBlock=some j→w.heap.size+2≤j):=fun j e=>(OW.out.lt j e).1
      have hzA:(W8.alloc (.cells #[.string x.name,.int .i64 x.kind,.int .i64 x.code,.string x.text,.slice (some ⟨g4,0,none⟩) n4 c4,.slice al k cl] 86)).heap.size=W8.heap.size+1:=by simp
      have hzT:=BT.out.size
      go_wp2_with (at_builtin;refine wpList_append_own _ rfl (.tmp 121) (.tmp 123) 41 rfl (w.heap.size+2) 86 id' (.agg #[.string ⟨#[]⟩,.int .i64 0,.int .i64 0,.string ⟨#[]⟩,.slice none 0 0,.slice none 0 0]) 6 96 Tryz.underlying41 hid hid0 hid1 hid2 rfl (by decide) (.slice a5 i c5) i (R.flatMap ddV) (by simp [Act.eval]) OW.out ⟨W8.heap.size,0,none⟩ 1 1 [.string x.name,.int .i64 x.kind,.int .i64 x.code,.string x.text,.slice (some ⟨g4,0,none⟩) n4 c4,.slice al k cl] (by simp [Act.eval]) rfl (six_at W8 _ _ _ _ _ _ _) (by simp [Value.oneCell']) (by unfold maxLen;omega) (by omega) (by omega) ?_;intro v' w9 hown hgrow _;obtain ⟨a7,c7,rfl⟩:=own_sliceM hown;have O9:=hide hown;have G9:=hide hgrow;have k9:=hide ((hgrow.block _ (heap_lt kA.out) (fun e=>by have:=hvb.out _ e.symm;omega)).trans kA.out);have g9:w9.cell? ⟨w.heap.size+1,0,none⟩=some (.slice a5 i c5):=(by simp [World.cell?,k9.out]);have f9:w9.frozen? ⟨w.heap.size+1,0,none⟩=false:=(by simp [World.frozen?,k9.out]);have l9:=heap_lt k9.out;clear hown hgrow)
      have D9:Hid (DRow w9 (w.heap.size+2) (.slice a7 (i+1) c7) (R++[(deedE S made x,.slice (some ⟨g4,0,none⟩) n4 c4,.slice al k cl)])):=DRow.more D4.out DA.out (by omega) SA.out (by rw [hRi];exact O9.out) G9.out
      have kr9:=hide ((G9.out.block _ (heap_lt krA.out) (fun e=>by have:=hvb.out _ e.symm;omega)).trans krA.out)
      have B9:=hide (Below.grown BA.out G9.out (by omega) (fun j e=>by have:=hvb.out j e;omega))
      have D10:=hide (D9.out.set (p:=⟨w.heap.size+1,0,none⟩) (e:=43) (.inl (Nat.lt_succ_self _)) (.slice a7 (i+1) c7))
      have k10:Hid ((w9.setCell ⟨w.heap.size+1,0,none⟩ (.slice a7 (i+1) c7)).heap[w.heap.size+1]?=some (.cells #[.slice a7 (i+1) c7] 43 (0,0))):=heap_setCell_at k9.out _
      have kr10:Hid ((w9.setCell ⟨w.heap.size+1,0,none⟩ (.slice a7 (i+1) c7)).heap[w.heap.size]?=some (.cells #[.slice none 0 0] 43 (0,0))):=(Below.heap_setCell _ _ _ _ (show w.heap.size≠w.heap.size+1 by omega)).trans kr9.out
      have B10:=hide (B9.out.setCell (p:=⟨w.heap.size+1,0,none⟩) (Nat.le_succ _) (.slice a7 (i+1) c7))
      refine ⟨⟨i+1,a7,c7,_,by omega,by go_num,by rw [List.length_append,hRi];rfl,?_,D10.out,k10.out,kr10.out,B10.out⟩,by simp [intOf];omega⟩
      show (R++[((deedE S made x,.slice (some ⟨g4,0,none⟩) n4 c4,.slice al k cl):DR)]).map (·.1)=_
      rw [List.map_append,HRM.out,List.take_add_one,HX.out]
      simp
  ·have e:i=n:=by omega
   subst e
   have rc0:wr.cell? ⟨w.heap.size,0,none⟩=some (.slice none 0 0):=by simp [World.cell?,kr4.out]
   have rf0:wr.frozen? ⟨w.heap.size,0,none⟩=false:=by simp [World.frozen?,kr4.out]
   have rl0:=heap_lt kr4.out
   have ac0:wr.cell? ⟨w.heap.size+1,0,none⟩=some (.slice a5 i c5):=by simp [World.cell?,k4.out]
   have al0:=heap_lt k4.out
   go_wp2
   refine bodyPost_ret (v:=.agg #[.slice a5 i c5]) (by simp [results,Tryz.results47,go_sem,rc0]) rfl ?_
   subst hRi
   refine ⟨a5,c5,R,rfl,?_,?_,?_⟩
   ·exact (D4.out.set (p:=⟨w.heap.size,0,none⟩) (e:=43) (.inl (show w.heap.size<w.heap.size+2 by omega)) _).mono (by omega)
   ·rw [HRM.out,List.take_of_length_le (by rw [← HN.out];exact Nat.le_refl _)]
    rfl
   ·exact B4.out.setCell (p:=⟨w.heap.size,0,none⟩) lr _
end
end Go.Proofs.YtfnbojfnelfnkaaGreatDoor.Vp
