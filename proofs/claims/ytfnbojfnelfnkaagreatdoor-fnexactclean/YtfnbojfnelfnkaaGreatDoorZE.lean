import Derived.Test.YtfnbojfnelfnkaaGreatDoorZD
import Derived.Test.YtfnbojfnelfnkaaGreatDoorZC
set_option maxHeartbeats 2000000
namespace Go.Proofs.YtfnbojfnelfnkaaGreatDoor.Vp
open Go.RowKit
theorem szSpace_any (a0:Option Addr)(n0 c0:Nat)(f0:Nat→Source)(a1:Option Addr)(n1 c1:Nat)(f1:Nat→Target)(left:Int)(w:World)(h0:0≤left)(h1:left≤1048576)(hn0:(n0:Int)≤9223372036854775807)(hn1:(n1:Int)≤9223372036854775807)
  (hv0:SlSource w a0 n0 f0) (hs0:∀ i,i<n0→(f0 i).name.size≤maxLen∧(f0 i).text.size≤maxLen) (hv1:SlTarget w a1 n1 f1) (hs1:∀ i,i<n1→SizedTarget (f1 i)) :
  Calls Tryz.prog 6 #[.agg #[.slice a0 n0 c0,.slice a1 n1 c1],.int .i64 left] w fun e w'=>∃ r:Int,e=.returned (.int .i64 r)∧-1≤r∧r≤left∧(0≤r→(n0:Int)≤left∧(n1:Int)≤left∧∀ i,i<n1→FitsTarget (f1 i))∧Below w.heap.size w w':=by
 have HV0:=hide hv0
 have HV1:=hide hv1
 have HS0:=hide hs0
 have HS1:=hide hs1
 clear hv0 hv1 hs0 hs1
 have B0:=hide ((Below.refl w.heap.size w).alloc lr (.cells #[.slice a0 n0 c0,.slice a1 n1 c1] 25))
 go_enter Tryz.func6,Tryz.ntmps6
 go_wp2_with fail
 refine (szSourceS_any a0 n0 c0 f0 left _ h0 h1 hn0 (HV0.out.below B0.out lr) HS0.out).mono ?_
 rintro e w1 ⟨r,rfl,hr1,hr2,hr3,hB⟩
 have c1':w1.cell? ⟨w.heap.size,1,none⟩=some (.slice a1 n1 c1):=(hB.cell (p:=⟨w.heap.size,1,none⟩) (by simp)).trans (by simp)
 have B1:=hide (B0.out.trans (hB.mono (by simp)))
 clear hB B0
 by_cases hr:r<0
 ·clear hr3
  go_wp2
  go_ret
  exact ⟨-1,rfl,by omega,by omega,fun _=>by omega,B1.out⟩
 have hq:=hr3 (by omega)
 clear hr3
 go_wp2_with fail
 refine (szTargetS_any a1 n1 c1 f1 r _ (by omega) (by omega) hn1 (HV1.out.below B1.out lr) HS1.out).mono ?_
 rintro e w2 ⟨q,rfl,hq1,hq2,hq3,hB⟩
 have B2:=hide (B1.out.trans (hB.mono B1.out.size))
 have HQ:=hide hq3
 clear hB hq3
 go_wp2
 all_goals go_ret
 ·exact ⟨-1,rfl,by omega,by omega,fun _=>by omega,B2.out⟩
 ·exact ⟨q,rfl,hq1,by omega,fun h=>⟨hq,by have:=(HQ.out h).1;omega,(HQ.out h).2⟩,B2.out⟩
theorem toSpace_any (a0:Option Addr)(n0 c0:Nat)(f0:Nat→Source)(a1:Option Addr)(n1 c1:Nat)(f1:Nat→Target)(w:World)(hn0:n0≤1048576)(hn1:n1≤1048576)(hv0:SlSource w a0 n0 f0)(hv1:SlTarget w a1 n1 f1)(hm:∀ i,i<n1→FitsTarget (f1 i)) :
  Calls Tryz.prog 8 #[.agg #[.slice a0 n0 c0,.slice a1 n1 c1]] w fun e w'=>∃ g0 g1,e=.returned (.agg #[.slice (some ⟨g0,0,none⟩) n0 n0,.slice (some ⟨g1,0,none⟩) n1 n1])∧RowSource w' g0 0 n0 f0∧w.heap.size≤g0∧OwnTarget w' g1 n1 n1 f1∧g0<g1∧Below w.heap.size w w':=by
 have HV0:=hide hv0
 have HV1:=hide hv1
 have HM:=hide hm
 clear hv0 hv1 hm
 have A0:=hide ((((Below.refl w.heap.size w).alloc lr (.cells #[.slice a0 n0 c0,.slice a1 n1 c1] 25)).alloc (by simp) (.cells #[.slice none 0 0,.slice none 0 0] 34)).alloc (by first | (simp;omega) | simp) (.cells #[.slice none 0 0,.slice none 0 0] 34))
 go_enter Tryz.func8,Tryz.ntmps8
 go_wp2_with fail
 refine (toSourceS_any a0 n0 c0 f0 _ hn0 (HV0.out.below A0.out lr)).mono ?_
 rintro e w1 ⟨g0,rfl,hR0,hg0,hB1⟩
 have R0:=hide hR0
 obtain ⟨hc1,hz1⟩:=bcell hB1
 have B1:=hide (A0.out.trans (hB1.mono A0.out.size))
 have hs1:w.heap.size+1+1<w1.heap.size:=by have:=hB1.size;simp at this;omega
 have hu1:w.heap.size+1<w1.heap.size:=by omega
 have ht1:w.heap.size<w1.heap.size:=by omega
 have D1:=hide hB1
 clear hR0 hB1
 simp at hg0
 have hgl:g0<w1.heap.size:=R0.out.1
 go_wp2_with fail
 have A1:=hide (B1.out.setCell (p:=⟨w.heap.size+1+1,0,none⟩) (by first | (simp;omega) | simp) (.slice (some ⟨g0,0,none⟩) n0 n0))
 refine (toTargetS_any a1 n1 c1 f1 _ hn1 (HV1.out.below A1.out lr) HM.out).mono ?_
 rintro e w2 ⟨g1,rfl,hR1,hg1,hB2⟩
 have R1:=hide hR1
 obtain ⟨hc2,hz2⟩:=bcell hB2
 have B2:=hide (A1.out.trans (hB2.mono A1.out.size))
 have hs2:w.heap.size+1+1<w2.heap.size:=by have:=hB2.size;simp at this;omega
 have hu2:w.heap.size+1<w2.heap.size:=by omega
 have ht2:w.heap.size<w2.heap.size:=by omega
 have D2:=hide hB2
 clear hR1 hB2
 simp at hg1
 have q0:w2.cell? ⟨w.heap.size+1,0,none⟩=some (.slice none 0 0):=by
  rw [D2.out.cell (p:=⟨w.heap.size+1,0,none⟩) (by first | (simp;omega) | simp),cell_far _ _ _ _ (by simp)]
  rw [D1.out.cell (p:=⟨w.heap.size+1,0,none⟩) (by first | (simp;omega) | simp)]
  simp [go_sem]
 have q1:w2.cell? ⟨w.heap.size+1,1,none⟩=some (.slice none 0 0):=by
  rw [D2.out.cell (p:=⟨w.heap.size+1,1,none⟩) (by first | (simp;omega) | simp),cell_far _ _ _ _ (by simp)]
  rw [D1.out.cell (p:=⟨w.heap.size+1,1,none⟩) (by first | (simp;omega) | simp)]
  simp [go_sem]
 go_wp2
 refine bodyPost_ret (v:=.agg #[.slice (some ⟨g0,0,none⟩) n0 n0,.slice (some ⟨g1,0,none⟩) n1 n1]) (by simp [results,Tryz.results8,go_sem,q0,q1]) rfl ⟨g0,g1,rfl,?_,by omega,?_,by omega,?_⟩
 ·exact ((((R0.out.setOther _ (by first | (simp;omega) | simp) _).below D2.out lr).setOther _ (by first | (simp;omega) | simp) _).setOther _ (by first | (simp;omega) | simp) _).setOther _ (by first | (simp;omega) | simp) _
 ·exact ((R1.out.setOther _ (by first | (simp;omega) | simp) _).setOther _ (by first | (simp;omega) | simp) _).setOther _ (by first | (simp;omega) | simp) _
 ·exact ((B2.out.setCell (by first | (simp;omega) | simp) _).setCell (by first | (simp;omega) | simp) _).setCell (by first | (simp;omega) | simp) _
theorem eqSpace_any (a0 b0:Option Addr)(c0 d0 n0:Nat)(f0:Nat→Source)(a1 b1:Option Addr)(c1 d1 n1:Nat)(f1:Nat→Target)(w:World)(hn0:n0≤1048576)(hn1:n1≤1048576)(h0:SlSource w a0 n0 f0)(h0':SlSource w b0 n0 f0)(h1:SlTarget w a1 n1 f1)(h1':SlTarget w b1 n1 f1)(hm:∀ i,i<n1→FitsTarget (f1 i)) :
  Calls Tryz.prog 11 #[.agg #[.slice a0 n0 c0,.slice a1 n1 c1],.agg #[.slice b0 n0 d0,.slice b1 n1 d1]] w fun e w'=>e=.returned (.bool true)∧Below w.heap.size w w':=by
 have H0:=hide h0
 have H0':=hide h0'
 have H1:=hide h1
 have H1':=hide h1'
 have HM:=hide hm
 clear h0 h0' h1 h1' hm
 have A0:=hide (((Below.refl w.heap.size w).alloc lr (.cells #[.slice a0 n0 c0,.slice a1 n1 c1] 34)).alloc (by simp) (.cells #[.slice b0 n0 d0,.slice b1 n1 d1] 34))
 go_enter Tryz.func11,Tryz.ntmps11
 go_wp2_with fail
 refine (eqSourceS_any a0 b0 c0 d0 n0 f0 _ hn0 (H0.out.below A0.out lr) (H0'.out.below A0.out lr)).mono ?_
 rintro e w1 ⟨rfl,hB1⟩
 have k0:w1.cell? ⟨w.heap.size,1,none⟩=some (.slice a1 n1 c1):=(hB1.cell (p:=⟨w.heap.size,1,none⟩) (by simp<;>omega)).trans (by simp)
 have k1:w1.cell? ⟨w.heap.size+1,1,none⟩=some (.slice b1 n1 d1):=(hB1.cell (p:=⟨w.heap.size+1,1,none⟩) (by simp)).trans (by simp)
 have B1:=hide (A0.out.trans (hB1.mono (by simp;omega)))
 clear hB1 A0
 go_wp2_with fail
 refine (eqTargetS_any a1 b1 c1 d1 n1 f1 _ hn1 (H1.out.below B1.out lr) (H1'.out.below B1.out lr) HM.out).mono ?_
 rintro e w2 ⟨rfl,hB2⟩
 have B2:=hide (B1.out.trans (hB2.mono B1.out.size))
 clear hB2
 go_wp2
 go_ret
 exact ⟨rfl,B2.out⟩
def RowStr (w:World)(b off n:Nat)(f:Nat→ByteArray):Prop:=b<w.heap.size∧∀ i,i<n→w.cell? ⟨b,off+i,none⟩=some (.string (f i))
theorem RowStr.below {w w':World}{B b off n:Nat}{f:Nat→ByteArray}(h:RowStr w b off n f)(hb:Below B w w')(hB:w.heap.size≤B):RowStr w' b off n f :=
 ⟨Nat.lt_of_lt_of_le h.1 hb.size,fun i hi=>(hb.cell (p:=⟨b,_,none⟩) (Nat.lt_of_lt_of_le h.1 hB)).trans (h.2 i hi)⟩
theorem RowStr.low {w w':World}{B b off n:Nat}{f:Nat→ByteArray}(h:RowStr w b off n f)(hb:Below B w w')(hB:b<B):RowStr w' b off n f :=
 ⟨Nat.lt_of_lt_of_le h.1 hb.size,fun i hi=>(hb.cell (p:=⟨b,_,none⟩) hB).trans (h.2 i hi)⟩
theorem RowStr.setOther {w:World}{g n off:Nat}{f:Nat→ByteArray}(h:RowStr w g off n f)(p:Addr)(hp:p.block≠g)(v:Value):RowStr (w.setCell p v) g off n f :=
 ⟨by simpa using h.1,fun i hi=>(World.cell?_of_block (w:=w) (a:=⟨g,off+i,none⟩) (Below.heap_setCell w p v g (fun e=>hp e.symm))).trans (h.2 i hi)⟩
def SlStr (w:World)(a:Option Addr)(n:Nat)(f:Nat→ByteArray):Prop:=n=0∨∃ b off,a=some ⟨b,off,none⟩∧RowStr w b off n f
theorem SlStr.below {w w':World}{B:Nat}{a:Option Addr}{n:Nat}{f:Nat→ByteArray}(h:SlStr w a n f)(hb:Below B w w')(hB:w.heap.size≤B):SlStr w' a n f:=by
 rcases h with h | ⟨b,off,hv,hr⟩
 ·exact .inl h
 ·exact .inr ⟨b,off,hv,hr.below hb hB⟩
theorem RowStr.sl {w:World}{b off n:Nat}{f:Nat→ByteArray}(h:RowStr w b off n f):SlStr w (some ⟨b,off,none⟩) n f:=.inr ⟨b,off,rfl,h⟩
theorem infoString:(Tryz.prog.info? 9).map (fun i=>(i.zero,i.size,i.bytes))=some (some (.string ⟨#[]⟩),1,16):=by kernel_rfl
theorem valid_zero (f:Nat→Ins):valid f 0=false:=by simp [valid]
theorem implValid_sl (a:Option Addr)(n cap:Nat)(f:Nat→Ins)(w:World)(hn:n≤1048576)(hv:SlIns w a n f)(hT:Tab w) :
  Calls Tryz.prog 76 #[.agg #[.slice a n cap]] w fun e w'=>e=.returned (.bool (valid f n))∧Below w.heap.size w w':=by
 rcases hv with rfl | ⟨b,off,rfl,hr⟩
 ·exact implValid_no a 0 cap f w (by omega) (by simp)
 ·exact implValid_any b off n cap f w hn hr.1 hr.2 hT
theorem specValid_nil (a:Option Addr)(cap:Nat)(f:Nat→Ins)(w:World):Calls Tryz.prog 81 #[.agg #[.slice a 0 cap]] w fun e w'=>e=.returned (.bool (valid f 0))∧Below w.heap.size w w':=by
 rw [valid_zero]
 have A0:=hide ((Below.refl w.heap.size w).alloc lr (.cells #[.slice a 0 cap] 53))
 go_enter Tryz.func81,Tryz.ntmps81
 go_wp2
 go_loop [3] (fun i=>i=.int .i64 0) (fun _=>0)
 case atStart=>rfl
 case round =>
  subst hrel
  go_wp2
  go_ret
  exact ⟨rfl,A0.out⟩
theorem specValid_sl (a:Option Addr)(n cap:Nat)(f:Nat→Ins)(w:World)(hn:n≤1048576)(hv:SlIns w a n f)(hs:∀ i,i<n→(f i).s.size≤maxLen) :
  Calls Tryz.prog 81 #[.agg #[.slice a n cap]] w fun e w'=>e=.returned (.bool (valid f n))∧Below w.heap.size w w':=by
 rcases hv with rfl | ⟨b,off,rfl,hr⟩
 ·exact specValid_nil a cap f w
 ·exact specValid_row b off n cap f w hn hr.1 hr.2 hs
structure Link where
 name:ByteArray
 ask:Bool
 has:Bool
 at_:Int
def AtLink (w:World)(b off i:Nat)(x:Link):Prop :=
 w.cell? ⟨b,off+i*4,none⟩=some (.string x.name)∧w.cell? ⟨b,off+i*4+1,none⟩=some (.bool x.ask)∧w.cell? ⟨b,off+i*4+2,none⟩=some (.bool x.has)∧w.cell? ⟨b,off+i*4+3,none⟩=some (.int .i64 x.at_)
theorem AtLink.below {w w':World}{B b off i:Nat}{x:Link}(h:AtLink w b off i x)(hb:Below B w w')(hB:b<B):AtLink w' b off i x :=
 ⟨(hb.cell (p:=⟨b,_,none⟩) hB).trans h.1,(hb.cell (p:=⟨b,_,none⟩) hB).trans h.2.1,(hb.cell (p:=⟨b,_,none⟩) hB).trans h.2.2.1,(hb.cell (p:=⟨b,_,none⟩) hB).trans h.2.2.2⟩
def RowLink (w:World)(b off n:Nat)(f:Nat→Link):Prop:=b<w.heap.size∧∀ i,i<n→AtLink w b off i (f i)
theorem RowLink.below {w w':World}{B b off n:Nat}{f:Nat→Link}(h:RowLink w b off n f)(hb:Below B w w')(hB:w.heap.size≤B):RowLink w' b off n f :=
 ⟨Nat.lt_of_lt_of_le h.1 hb.size,fun i hi=>(h.2 i hi).below hb (Nat.lt_of_lt_of_le h.1 hB)⟩
theorem RowLink.setOther {w:World}{g n off:Nat}{f:Nat→Link}(h:RowLink w g off n f)(p:Addr)(hp:p.block≠g)(v:Value):RowLink (w.setCell p v) g off n f:=by
 refine ⟨by simpa using h.1,fun i hi=>?_⟩
 have h:=h.2 i hi
 have far:∀ o,(w.setCell p v).cell? ⟨g,o,none⟩=w.cell? ⟨g,o,none⟩:=fun o=>World.cell?_of_block (w:=w) (a:=⟨g,o,none⟩) (Below.heap_setCell w p v g (fun e=>hp e.symm))
 exact ⟨(far _).trans h.1,(far _).trans h.2.1,(far _).trans h.2.2.1,(far _).trans h.2.2.2⟩
def SlLink (w:World)(a:Option Addr)(n:Nat)(f:Nat→Link):Prop:=n=0∨∃ b off,a=some ⟨b,off,none⟩∧RowLink w b off n f
theorem SlLink.below {w w':World}{B:Nat}{a:Option Addr}{n:Nat}{f:Nat→Link}(h:SlLink w a n f)(hb:Below B w w')(hB:w.heap.size≤B):SlLink w' a n f:=by
 rcases h with h | ⟨b,off,hv,hr⟩
 ·exact .inl h
 ·exact .inr ⟨b,off,hv,hr.below hb hB⟩
theorem RowLink.sl {w:World}{b off n:Nat}{f:Nat→Link}(h:RowLink w b off n f):SlLink w (some ⟨b,off,none⟩) n f:=.inr ⟨b,off,rfl,h⟩
def OwnLink (w:World)(g n k:Nat)(f:Nat→Link):Prop :=
 ∃ F,w.rowIs g 151 (n*4) F∧∀ i,i<k→F (i*4)=.string (f i).name∧F (i*4+1)=.bool (f i).ask∧F (i*4+2)=.bool (f i).has∧F (i*4+3)=.int .i64 (f i).at_
theorem OwnLink.step {w:World}{g n k:Nat}{f:Nat→Link}(h:OwnLink w g n k f) :
  OwnLink ((((w.setCell ⟨g,k*4,none⟩ (.string (f k).name)).setCell ⟨g,k*4+1,none⟩ (.bool (f k).ask)).setCell ⟨g,k*4+2,none⟩ (.bool (f k).has)).setCell ⟨g,k*4+3,none⟩ (.int .i64 (f k).at_)) g n (k+1) f:=by
 obtain ⟨F,hr,hF⟩:=h
 refine ⟨_,((((hr.set _ _).set _ _).set _ _).set _ _),fun i hi=>?_⟩
 by_cases e:i=k
 ·subst e
  exact ⟨by simp,by simp,by simp,by simp⟩
 ·have h:=hF i (by omega)
  refine ⟨?_,?_,?_,?_⟩
  ·show (if _ then _ else if _ then _ else if _ then _ else if _ then _ else _)=_
   rw [if_neg (by omega),if_neg (by omega),if_neg (by omega),if_neg (by omega),h.1]
  ·show (if _ then _ else if _ then _ else if _ then _ else if _ then _ else _)=_
   rw [if_neg (by omega),if_neg (by omega),if_neg (by omega),if_neg (by omega),h.2.1]
  ·show (if _ then _ else if _ then _ else if _ then _ else if _ then _ else _)=_
   rw [if_neg (by omega),if_neg (by omega),if_neg (by omega),if_neg (by omega),h.2.2.1]
  ·show (if _ then _ else if _ then _ else if _ then _ else if _ then _ else _)=_
   rw [if_neg (by omega),if_neg (by omega),if_neg (by omega),if_neg (by omega),h.2.2.2]
theorem OwnLink.below {w w':World}{g n k:Nat}{f:Nat→Link}{B:Nat}(h:OwnLink w g n k f)(hb:Below B w w')(hB:g<B):OwnLink w' g n k f:=by
 obtain ⟨F,hr,hF⟩:=h
 exact ⟨F,hr.of_block (hb.block g hB),hF⟩
theorem OwnLink.row {w:World}{g n:Nat}{f:Nat→Link}(h:OwnLink w g n n f):RowLink w g 0 n f:=by
 obtain ⟨F,hr,hF⟩:=h
 refine ⟨hr.lt,fun i hi=>?_⟩
 have h:=hF i hi
 refine ⟨?_,?_,?_,?_⟩
 ·rw [Nat.zero_add,hr.cell (by omega),h.1]
 ·rw [Nat.zero_add,hr.cell (by omega),h.2.1]
 ·rw [Nat.zero_add,hr.cell (by omega),h.2.2.1]
 ·rw [Nat.zero_add,hr.cell (by omega),h.2.2.2]
structure Deed where
 name:ByteArray
 kind:Int
 code:Int
 text:ByteArray
 actN:Nat
 act:Nat→Ins
 linksN:Nat
 links:Nat→Link
def AtDeed (w:World)(b off i:Nat)(x:Deed):Prop :=
 w.cell? ⟨b,off+i*6,none⟩=some (.string x.name)∧w.cell? ⟨b,off+i*6+1,none⟩=some (.int .i64 x.kind)∧w.cell? ⟨b,off+i*6+2,none⟩=some (.int .i64 x.code)∧w.cell? ⟨b,off+i*6+3,none⟩=some (.string x.text)∧(∃ a cap,w.cell? ⟨b,off+i*6+4,none⟩=some (.slice a x.actN cap)∧SlIns w a x.actN x.act)∧(∃ a cap,w.cell? ⟨b,off+i*6+5,none⟩=some (.slice a x.linksN cap)∧SlLink w a x.linksN x.links)
theorem AtDeed.below {w w':World}{B b off i:Nat}{x:Deed}(h:AtDeed w b off i x)(hb:Below B w w')(hB:w.heap.size≤B)(hl:b<w.heap.size):AtDeed w' b off i x:=by
 obtain ⟨p0,p1,p2,p3,⟨a0,cap0,s0,r0⟩,⟨a1,cap1,s1,r1⟩⟩:=h
 refine ⟨(hb.cell (p:=⟨b,_,none⟩) (Nat.lt_of_lt_of_le hl hB)).trans p0,(hb.cell (p:=⟨b,_,none⟩) (Nat.lt_of_lt_of_le hl hB)).trans p1,(hb.cell (p:=⟨b,_,none⟩) (Nat.lt_of_lt_of_le hl hB)).trans p2,(hb.cell (p:=⟨b,_,none⟩) (Nat.lt_of_lt_of_le hl hB)).trans p3,⟨a0,cap0,(hb.cell (p:=⟨b,_,none⟩) (Nat.lt_of_lt_of_le hl hB)).trans s0,r0.below hb hB⟩,⟨a1,cap1,(hb.cell (p:=⟨b,_,none⟩) (Nat.lt_of_lt_of_le hl hB)).trans s1,r1.below hb hB⟩⟩
def RowDeed (w:World)(b off n:Nat)(f:Nat→Deed):Prop:=b<w.heap.size∧∀ i,i<n→AtDeed w b off i (f i)
theorem RowDeed.below {w w':World}{B b off n:Nat}{f:Nat→Deed}(h:RowDeed w b off n f)(hb:Below B w w')(hB:w.heap.size≤B):RowDeed w' b off n f :=
 ⟨Nat.lt_of_lt_of_le h.1 hb.size,fun i hi=>(h.2 i hi).below hb hB h.1⟩
def SlDeed (w:World)(a:Option Addr)(n:Nat)(f:Nat→Deed):Prop:=n=0∨∃ b off,a=some ⟨b,off,none⟩∧RowDeed w b off n f
theorem SlDeed.below {w w':World}{B:Nat}{a:Option Addr}{n:Nat}{f:Nat→Deed}(h:SlDeed w a n f)(hb:Below B w w')(hB:w.heap.size≤B):SlDeed w' a n f:=by
 rcases h with h | ⟨b,off,hv,hr⟩
 ·exact .inl h
 ·exact .inr ⟨b,off,hv,hr.below hb hB⟩
theorem RowDeed.sl {w:World}{b off n:Nat}{f:Nat→Deed}(h:RowDeed w b off n f):SlDeed w (some ⟨b,off,none⟩) n f:=.inr ⟨b,off,rfl,h⟩
def OwnDeed (w:World)(g n k:Nat)(f:Nat→Deed):Prop :=
 ∃ (F:Nat→Value) (G0 G1:Nat→Nat),w.rowIs g 86 (n*6) F∧∀ i,i<k→F (i*6)=.string (f i).name∧F (i*6+1)=.int .i64 (f i).kind∧F (i*6+2)=.int .i64 (f i).code∧F (i*6+3)=.string (f i).text∧(F (i*6+4)=.slice (some ⟨G0 i,0,none⟩) (f i).actN (f i).actN∧RowIns w (G0 i) 0 (f i).actN (f i).act∧g<G0 i)∧(F (i*6+5)=.slice (some ⟨G1 i,0,none⟩) (f i).linksN (f i).linksN∧RowLink w (G1 i) 0 (f i).linksN (f i).links∧g<G1 i)
theorem OwnDeed.lt {w:World}{g n k:Nat}{f:Nat→Deed}(h:OwnDeed w g n k f):g<w.heap.size:=by
 obtain ⟨F,G0,G1,hr,_⟩:=h
 exact hr.lt
theorem OwnDeed.step {w:World}{g n k g0 g1:Nat}{f:Nat→Deed}(h:OwnDeed w g n k f)(R0:RowIns w g0 0 (f k).actN (f k).act)(hg0:g<g0)(R1:RowLink w g1 0 (f k).linksN (f k).links)(hg1:g<g1) :
  OwnDeed ((((((w.setCell ⟨g,k*6,none⟩ (.string (f k).name)).setCell ⟨g,k*6+1,none⟩ (.int .i64 (f k).kind)).setCell ⟨g,k*6+2,none⟩ (.int .i64 (f k).code)).setCell ⟨g,k*6+3,none⟩ (.string (f k).text)).setCell ⟨g,k*6+4,none⟩ (.slice (some ⟨g0,0,none⟩) (f k).actN (f k).actN)).setCell ⟨g,k*6+5,none⟩ (.slice (some ⟨g1,0,none⟩) (f k).linksN (f k).linksN)) g n (k+1) f:=by
 obtain ⟨F,G0,G1,hr,hF⟩:=h
 refine ⟨_,fun i=>if i=k then g0 else G0 i,fun i=>if i=k then g1 else G1 i,((((((hr.set _ _).set _ _).set _ _).set _ _).set _ _).set _ _),fun i hi=>?_⟩
 by_cases e:i=k
 ·subst e
  exact ⟨by simp,by simp,by simp,by simp,⟨by simp,by dsimp only;rw [if_pos rfl];exact ((((((R0).setOther _ (by first | (simp;omega) | simp) _).setOther _ (by first | (simp;omega) | simp) _).setOther _ (by first | (simp;omega) | simp) _).setOther _ (by first | (simp;omega) | simp) _).setOther _ (by first | (simp;omega) | simp) _).setOther _ (by first | (simp;omega) | simp) _,by dsimp only;rw [if_pos rfl];exact hg0⟩,⟨by simp,by dsimp only;rw [if_pos rfl];exact ((((((R1).setOther _ (by first | (simp;omega) | simp) _).setOther _ (by first | (simp;omega) | simp) _).setOther _ (by first | (simp;omega) | simp) _).setOther _ (by first | (simp;omega) | simp) _).setOther _ (by first | (simp;omega) | simp) _).setOther _ (by first | (simp;omega) | simp) _,by dsimp only;rw [if_pos rfl];exact hg1⟩⟩
 ·obtain ⟨p0,p1,p2,p3,⟨s0,r0,u0⟩,⟨s1,r1,u1⟩⟩:=hF i (by omega)
  refine ⟨?_,?_,?_,?_,?_,?_⟩
  ·show (if _ then _ else if _ then _ else if _ then _ else if _ then _ else if _ then _ else if _ then _ else _)=_
   rw [if_neg (by omega),if_neg (by omega),if_neg (by omega),if_neg (by omega),if_neg (by omega),if_neg (by omega),p0]
  ·show (if _ then _ else if _ then _ else if _ then _ else if _ then _ else if _ then _ else if _ then _ else _)=_
   rw [if_neg (by omega),if_neg (by omega),if_neg (by omega),if_neg (by omega),if_neg (by omega),if_neg (by omega),p1]
  ·show (if _ then _ else if _ then _ else if _ then _ else if _ then _ else if _ then _ else if _ then _ else _)=_
   rw [if_neg (by omega),if_neg (by omega),if_neg (by omega),if_neg (by omega),if_neg (by omega),if_neg (by omega),p2]
  ·show (if _ then _ else if _ then _ else if _ then _ else if _ then _ else if _ then _ else if _ then _ else _)=_
   rw [if_neg (by omega),if_neg (by omega),if_neg (by omega),if_neg (by omega),if_neg (by omega),if_neg (by omega),p3]
  ·dsimp only
   rw [if_neg e]
   refine ⟨?_,((((((r0).setOther _ (by first | (simp;omega) | simp) _).setOther _ (by first | (simp;omega) | simp) _).setOther _ (by first | (simp;omega) | simp) _).setOther _ (by first | (simp;omega) | simp) _).setOther _ (by first | (simp;omega) | simp) _).setOther _ (by first | (simp;omega) | simp) _,u0⟩
   show (if _ then _ else if _ then _ else if _ then _ else if _ then _ else if _ then _ else if _ then _ else _)=_
   rw [if_neg (by omega),if_neg (by omega),if_neg (by omega),if_neg (by omega),if_neg (by omega),if_neg (by omega),s0]
  ·dsimp only
   rw [if_neg e]
   refine ⟨?_,((((((r1).setOther _ (by first | (simp;omega) | simp) _).setOther _ (by first | (simp;omega) | simp) _).setOther _ (by first | (simp;omega) | simp) _).setOther _ (by first | (simp;omega) | simp) _).setOther _ (by first | (simp;omega) | simp) _).setOther _ (by first | (simp;omega) | simp) _,u1⟩
   show (if _ then _ else if _ then _ else if _ then _ else if _ then _ else if _ then _ else if _ then _ else _)=_
   rw [if_neg (by omega),if_neg (by omega),if_neg (by omega),if_neg (by omega),if_neg (by omega),if_neg (by omega),s1]
theorem OwnDeed.below {w w':World}{g n k:Nat}{f:Nat→Deed}{B:Nat}(h:OwnDeed w g n k f)(hb:Below B w w')(hB:w.heap.size≤B):OwnDeed w' g n k f:=by
 have hl:=h.lt
 obtain ⟨F,G0,G1,hr,hF⟩:=h
 refine ⟨F,G0,G1,hr.of_block (hb.block g (Nat.lt_of_lt_of_le hl hB)),fun i hi=>?_⟩
 obtain ⟨p0,p1,p2,p3,⟨s0,r0,u0⟩,⟨s1,r1,u1⟩⟩:=hF i hi
 exact ⟨p0,p1,p2,p3,⟨s0,r0.below hb hB,u0⟩,⟨s1,r1.below hb hB,u1⟩⟩
theorem OwnDeed.setOther {w:World}{g n k:Nat}{f:Nat→Deed}(h:OwnDeed w g n k f)(p:Addr)(hp:p.block<g)(v:Value):OwnDeed (w.setCell p v) g n k f:=by
 obtain ⟨F,G0,G1,hr,hF⟩:=h
 refine ⟨F,G0,G1,hr.setOther (by omega) v,fun i hi=>?_⟩
 obtain ⟨p0,p1,p2,p3,⟨s0,r0,u0⟩,⟨s1,r1,u1⟩⟩:=hF i hi
 exact ⟨p0,p1,p2,p3,⟨s0,r0.setOther p (by omega) v,u0⟩,⟨s1,r1.setOther p (by omega) v,u1⟩⟩
theorem OwnDeed.row {w:World}{g n:Nat}{f:Nat→Deed}(h:OwnDeed w g n n f):RowDeed w g 0 n f:=by
 obtain ⟨F,G0,G1,hr,hF⟩:=h
 refine ⟨hr.lt,fun i hi=>?_⟩
 obtain ⟨p0,p1,p2,p3,⟨s0,r0,u0⟩,⟨s1,r1,u1⟩⟩:=hF i hi
 refine ⟨?_,?_,?_,?_,?_,?_⟩
 ·rw [Nat.zero_add,hr.cell (by omega),p0]
 ·rw [Nat.zero_add,hr.cell (by omega),p1]
 ·rw [Nat.zero_add,hr.cell (by omega),p2]
 ·rw [Nat.zero_add,hr.cell (by omega),p3]
 ·exact ⟨_,_,by rw [Nat.zero_add,hr.cell (by omega),s0],r0.sl⟩
 ·exact ⟨_,_,by rw [Nat.zero_add,hr.cell (by omega),s1],r1.sl⟩
theorem reply_any (x:Deed)(a0:Option Addr)(cap0:Nat)(a1:Option Addr)(cap1:Nat)(w:World) :
  Calls Tryz.prog 178 #[.agg #[.string x.name,.int .i64 x.kind,.int .i64 x.code,.string x.text,.slice a0 x.actN cap0,.slice a1 x.linksN cap1]] w fun e w'=>e=.returned (.agg #[.bool (decide (¬ x.kind=2)),.int .i64 x.code,.string x.text])∧Below w.heap.size w w':=by
 have A0:=hide ((Below.refl w.heap.size w).alloc lr (.cells #[.string x.name,.int .i64 x.kind,.int .i64 x.code,.string x.text,.slice a0 x.actN cap0,.slice a1 x.linksN cap1] 86))
 obtain ⟨r,hr⟩:∃ r,r=decide (¬ x.kind=2):=⟨_,rfl⟩
 rw [← hr]
 have HR:=hide hr
 clear hr
 go_enter Tryz.func178,Tryz.ntmps178
 by_cases hk:x.kind=2
 ·obtain rfl:r=false:=by rw [HR.out];simp [hk]
  go_wp2
  exact bodyPost_ret (v:=.agg #[.bool false,.int .i64 x.code,.string x.text]) (by simp [results,Tryz.results178,go_sem]) rfl ⟨rfl,by
   repeat (first | exact A0.out | exact Below.refl _ _ | refine Below.alloc ?_ (by simp<;>omega) _)⟩
 ·obtain rfl:r=true:=by rw [HR.out];simp [hk]
  go_wp2
  exact bodyPost_ret (v:=.agg #[.bool true,.int .i64 x.code,.string x.text]) (by simp [results,Tryz.results178,go_sem,hk]) rfl ⟨rfl,by
   repeat (first | exact A0.out | exact Below.refl _ _ | refine Below.alloc ?_ (by simp<;>omega) _)⟩
theorem eqStringS_row (b off cap b2 off2 cap2 n:Nat)(f:Nat→ByteArray)(w:World)(hn:n≤1048576)(hf:RowStr w b off n f)(hf2:RowStr w b2 off2 n f) :
  Calls Tryz.prog 40 #[.slice (some ⟨b,off,none⟩) n cap,.slice (some ⟨b2,off2,none⟩) n cap2] w fun e w'=>e=.returned (.bool true)∧Below w.heap.size w w':=by
 have HF:=hide hf
 have HF2:=hide hf2
 clear hf hf2
 go_enter Tryz.func40,Tryz.ntmps40
 go_wp2
 go_loopw [5] (fun i wr=>∃ k:Nat,k≤n∧i=.int .i64 k∧Below w.heap.size w wr) (fun i _=>n - (intOf i).toNat)
 case atStart=>exact ⟨0,by omega,rfl,Below.refl _ _⟩
 case round =>
  obtain ⟨k,hk,rfl,hB⟩:=hrel
  have HB:=hide hB
  clear hB
  by_cases hlt:k<n
  ·have c0:=(HF.out.below HB.out lr).2 k hlt
   have d0:=(HF2.out.below HB.out lr).2 k hlt
   go_wp2_with fail
   go_quiet (fail)
   have HB1:=hide (below_drewN HB.out nq)
   clear c0 d0
   generalize wr.drewN nq=W at HB1 ⊢
   have c0:=(HF.out.below HB1.out lr).2 k hlt
   have d0:=(HF2.out.below HB1.out lr).2 k hlt
   go_wp2
   exact ⟨⟨k+1,by omega,by go_num,HB1.out⟩,by simp [intOf];omega⟩
  ·have e:k=n:=by omega
   subst e
   go_wp2
   go_ret
   exact ⟨rfl,HB.out⟩
theorem eqStringS_nil (a a2:Option Addr)(cap cap2:Nat)(w:World) :
  Calls Tryz.prog 40 #[.slice a 0 cap,.slice a2 0 cap2] w fun e w'=>e=.returned (.bool true)∧w'=w:=by
 go_enter Tryz.func40,Tryz.ntmps40
 go_wp2
 go_loop [5] (fun i=>i=.int .i64 0) (fun _=>0)
 case atStart=>rfl
 case round =>
  subst hrel
  go_wp2
  go_ret
  exact ⟨rfl,rfl⟩
theorem eqStringS_any (a a2:Option Addr)(cap cap2 n:Nat)(f:Nat→ByteArray)(w:World)(hn:n≤1048576)(h:SlStr w a n f)(h2:SlStr w a2 n f) :
  Calls Tryz.prog 40 #[.slice a n cap,.slice a2 n cap2] w fun e w'=>e=.returned (.bool true)∧Below w.heap.size w w':=by
 by_cases hz:n=0
 ·subst hz
  exact (eqStringS_nil a a2 cap cap2 w).mono fun _ _ ⟨a,b⟩=>⟨a,by rw [b];exact Below.refl _ _⟩
 ·rcases h with h | ⟨b,off,rfl,hf⟩
  ·exact absurd h hz
  ·rcases h2 with h | ⟨b2,off2,rfl,hf2⟩
   ·exact absurd h hz
   ·exact eqStringS_row b off cap b2 off2 cap2 n f w hn hf hf2
structure Result where
 code:Int
 text:ByteArray
 chainN:Nat
 chain:Nat→ByteArray
def FitsResult (x:Result):Prop:=x.chainN≤1048576
def AtResult (w:World)(b off i:Nat)(x:Result):Prop :=
 w.cell? ⟨b,off+i*3,none⟩=some (.int .i64 x.code)∧w.cell? ⟨b,off+i*3+1,none⟩=some (.string x.text)∧(∃ a cap,w.cell? ⟨b,off+i*3+2,none⟩=some (.slice a x.chainN cap)∧SlStr w a x.chainN x.chain)
theorem AtResult.below {w w':World}{B b off i:Nat}{x:Result}(h:AtResult w b off i x)(hb:Below B w w')(hB:w.heap.size≤B)(hl:b<w.heap.size):AtResult w' b off i x:=by
 obtain ⟨p0,p1,⟨a0,cap0,s0,r0⟩⟩:=h
 refine ⟨(hb.cell (p:=⟨b,_,none⟩) (Nat.lt_of_lt_of_le hl hB)).trans p0,(hb.cell (p:=⟨b,_,none⟩) (Nat.lt_of_lt_of_le hl hB)).trans p1,⟨a0,cap0,(hb.cell (p:=⟨b,_,none⟩) (Nat.lt_of_lt_of_le hl hB)).trans s0,r0.below hb hB⟩⟩
def RowResult (w:World)(b off n:Nat)(f:Nat→Result):Prop:=b<w.heap.size∧∀ i,i<n→AtResult w b off i (f i)
theorem RowResult.below {w w':World}{B b off n:Nat}{f:Nat→Result}(h:RowResult w b off n f)(hb:Below B w w')(hB:w.heap.size≤B):RowResult w' b off n f :=
 ⟨Nat.lt_of_lt_of_le h.1 hb.size,fun i hi=>(h.2 i hi).below hb hB h.1⟩
def SlResult (w:World)(a:Option Addr)(n:Nat)(f:Nat→Result):Prop:=n=0∨∃ b off,a=some ⟨b,off,none⟩∧RowResult w b off n f
theorem SlResult.below {w w':World}{B:Nat}{a:Option Addr}{n:Nat}{f:Nat→Result}(h:SlResult w a n f)(hb:Below B w w')(hB:w.heap.size≤B):SlResult w' a n f:=by
 rcases h with h | ⟨b,off,hv,hr⟩
 ·exact .inl h
 ·exact .inr ⟨b,off,hv,hr.below hb hB⟩
theorem RowResult.sl {w:World}{b off n:Nat}{f:Nat→Result}(h:RowResult w b off n f):SlResult w (some ⟨b,off,none⟩) n f:=.inr ⟨b,off,rfl,h⟩
theorem eqResult_any (x:Result)(a0:Option Addr)(cap0:Nat)(b0:Option Addr)(dap0:Nat)(w:World)(hfit:FitsResult x)(hv0:SlStr w a0 x.chainN x.chain)(hu0:SlStr w b0 x.chainN x.chain) :
  Calls Tryz.prog 10 #[.agg #[.int .i64 x.code,.string x.text,.slice a0 x.chainN cap0],.agg #[.int .i64 x.code,.string x.text,.slice b0 x.chainN dap0]] w fun e w'=>e=.returned (.bool true)∧Below w.heap.size w w':=by
 have V0:=hide hv0
 clear hv0
 have U0:=hide hu0
 clear hu0
 have hfit:=hide hfit
 have B0:Hid (Below w.heap.size w ((w.alloc (.cells #[.int .i64 x.code,.string x.text,.slice a0 x.chainN cap0] 29)).alloc (.cells #[.int .i64 x.code,.string x.text,.slice b0 x.chainN dap0] 29))):=((Below.refl _ _).alloc lr _).alloc (by simp) _
 go_enter Tryz.func10,Tryz.ntmps10
 go_wp2_with fail
 refine (eqStringS_any a0 b0 cap0 dap0 x.chainN x.chain _ hfit.out (V0.out.below B0.out lr) (U0.out.below B0.out lr)).mono ?_
 rintro e w1 ⟨rfl,hB1⟩
 have bc1:=(bcell hB1).1
 have B1:=hide (B0.out.trans (hB1.mono B0.out.size))
 have hs1:w.heap.size+1<w1.heap.size:=by have:=hB1.size;first | omega | (simp at this;omega)
 have ht1:w.heap.size<w1.heap.size:=by omega
 clear hB1
 go_wp2
 go_ret
 exact ⟨rfl,B1.out⟩
end Go.Proofs.YtfnbojfnelfnkaaGreatDoor.Vp
