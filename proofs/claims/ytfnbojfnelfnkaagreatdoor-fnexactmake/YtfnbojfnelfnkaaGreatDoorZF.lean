import Derived.Test.YtfnbojfnelfnkaaGreatDoorZD
import Derived.Test.YtfnbojfnelfnkaaGreatDoorZE
set_option maxHeartbeats 2000000
namespace Go.Proofs.YtfnbojfnelfnkaaGreatDoor.Vp
open Go.RowKit
theorem valid_zero (f:Nat→Ins):valid f 0=false:=by simp [valid]
theorem implValid_sl (a:Option Addr)(n cap:Nat)(f:Nat→Ins)(w:World)(hn:n≤1048576)(hv:SlIns w a n f)(hT:Tab w) :
  Calls Tryz.prog 76 #[.agg #[.slice a n cap]] w fun e w'=>e=.returned (.bool (valid f n))∧Below w.heap.size w w':=by
 rcases hv with rfl | ⟨b,off,rfl,hr⟩
 ·exact implValid_no a 0 cap f w (by omega) (by simp)
 ·exact implValid_any b off n cap f w hn hr.1 hr.2 hT
theorem specValid_nil (a:Option Addr)(cap:Nat)(f:Nat→Ins)(w:World):Calls Tryz.prog 81 #[.agg #[.slice a 0 cap]] w fun e w'=>e=.returned (.bool (valid f 0))∧Below w.heap.size w w':=by
 rw [valid_zero]
 have A0:=hide ((Below.refl w.heap.size w).alloc lr (.cells #[.slice a 0 cap] 53))
 go_enter Tryz.func81,Tryz.ntmps81
 go_wp2
 go_loop [3] (fun i=>i=.int .i64 0) (fun _=>0)
 case atStart=>rfl
 case round =>
  subst hrel
  go_wp2
  go_ret
  exact ⟨rfl,A0.out⟩
theorem specValid_sl (a:Option Addr)(n cap:Nat)(f:Nat→Ins)(w:World)(hn:n≤1048576)(hv:SlIns w a n f)(hs:∀ i,i<n→(f i).s.size≤maxLen) :
  Calls Tryz.prog 81 #[.agg #[.slice a n cap]] w fun e w'=>e=.returned (.bool (valid f n))∧Below w.heap.size w w':=by
 rcases hv with rfl | ⟨b,off,rfl,hr⟩
 ·exact specValid_nil a cap f w
 ·exact specValid_row b off n cap f w hn hr.1 hr.2 hs
structure Link where
 name:ByteArray
 ask:Bool
 has:Bool
 at_:Int
def AtLink (w:World)(b off i:Nat)(x:Link):Prop :=
 w.cell? ⟨b,off+i*4,none⟩=some (.string x.name)∧w.cell? ⟨b,off+i*4+1,none⟩=some (.bool x.ask)∧w.cell? ⟨b,off+i*4+2,none⟩=some (.bool x.has)∧w.cell? ⟨b,off+i*4+3,none⟩=some (.int .i64 x.at_)
theorem AtLink.below {w w':World}{B b off i:Nat}{x:Link}(h:AtLink w b off i x)(hb:Below B w w')(hB:b<B):AtLink w' b off i x :=
 ⟨(hb.cell (p:=⟨b,_,none⟩) hB).trans h.1,(hb.cell (p:=⟨b,_,none⟩) hB).trans h.2.1,(hb.cell (p:=⟨b,_,none⟩) hB).trans h.2.2.1,(hb.cell (p:=⟨b,_,none⟩) hB).trans h.2.2.2⟩
def RowLink (w:World)(b off n:Nat)(f:Nat→Link):Prop:=b<w.heap.size∧∀ i,i<n→AtLink w b off i (f i)
theorem RowLink.below {w w':World}{B b off n:Nat}{f:Nat→Link}(h:RowLink w b off n f)(hb:Below B w w')(hB:w.heap.size≤B):RowLink w' b off n f :=
 ⟨Nat.lt_of_lt_of_le h.1 hb.size,fun i hi=>(h.2 i hi).below hb (Nat.lt_of_lt_of_le h.1 hB)⟩
theorem RowLink.setOther {w:World}{g n off:Nat}{f:Nat→Link}(h:RowLink w g off n f)(p:Addr)(hp:p.block≠g)(v:Value):RowLink (w.setCell p v) g off n f:=by
 refine ⟨by simpa using h.1,fun i hi=>?_⟩
 have h:=h.2 i hi
 have far:∀ o,(w.setCell p v).cell? ⟨g,o,none⟩=w.cell? ⟨g,o,none⟩:=fun o=>World.cell?_of_block (w:=w) (a:=⟨g,o,none⟩) (Below.heap_setCell w p v g (fun e=>hp e.symm))
 exact ⟨(far _).trans h.1,(far _).trans h.2.1,(far _).trans h.2.2.1,(far _).trans h.2.2.2⟩
def SlLink (w:World)(a:Option Addr)(n:Nat)(f:Nat→Link):Prop:=n=0∨∃ b off,a=some ⟨b,off,none⟩∧RowLink w b off n f
theorem SlLink.below {w w':World}{B:Nat}{a:Option Addr}{n:Nat}{f:Nat→Link}(h:SlLink w a n f)(hb:Below B w w')(hB:w.heap.size≤B):SlLink w' a n f:=by
 rcases h with h | ⟨b,off,hv,hr⟩
 ·exact .inl h
 ·exact .inr ⟨b,off,hv,hr.below hb hB⟩
theorem RowLink.sl {w:World}{b off n:Nat}{f:Nat→Link}(h:RowLink w b off n f):SlLink w (some ⟨b,off,none⟩) n f:=.inr ⟨b,off,rfl,h⟩
theorem infoLink:(Tryz.prog.info? 151).map (fun i=>(i.zero,i.size,i.bytes))=some (some (.agg #[.string ⟨#[]⟩,.bool false,.bool false,.int .i64 0]),4,32):=by kernel_rfl
def OwnLink (w:World)(g n k:Nat)(f:Nat→Link):Prop :=
 ∃ F,w.rowIs g 151 (n*4) F∧∀ i,i<k→F (i*4)=.string (f i).name∧F (i*4+1)=.bool (f i).ask∧F (i*4+2)=.bool (f i).has∧F (i*4+3)=.int .i64 (f i).at_
theorem OwnLink.step {w:World}{g n k:Nat}{f:Nat→Link}(h:OwnLink w g n k f) :
  OwnLink ((((w.setCell ⟨g,k*4,none⟩ (.string (f k).name)).setCell ⟨g,k*4+1,none⟩ (.bool (f k).ask)).setCell ⟨g,k*4+2,none⟩ (.bool (f k).has)).setCell ⟨g,k*4+3,none⟩ (.int .i64 (f k).at_)) g n (k+1) f:=by
 obtain ⟨F,hr,hF⟩:=h
 refine ⟨_,((((hr.set _ _).set _ _).set _ _).set _ _),fun i hi=>?_⟩
 by_cases e:i=k
 ·subst e
  exact ⟨by simp,by simp,by simp,by simp⟩
 ·have h:=hF i (by omega)
  refine ⟨?_,?_,?_,?_⟩
  ·show (if _ then _ else if _ then _ else if _ then _ else if _ then _ else _)=_
   rw [if_neg (by omega),if_neg (by omega),if_neg (by omega),if_neg (by omega),h.1]
  ·show (if _ then _ else if _ then _ else if _ then _ else if _ then _ else _)=_
   rw [if_neg (by omega),if_neg (by omega),if_neg (by omega),if_neg (by omega),h.2.1]
  ·show (if _ then _ else if _ then _ else if _ then _ else if _ then _ else _)=_
   rw [if_neg (by omega),if_neg (by omega),if_neg (by omega),if_neg (by omega),h.2.2.1]
  ·show (if _ then _ else if _ then _ else if _ then _ else if _ then _ else _)=_
   rw [if_neg (by omega),if_neg (by omega),if_neg (by omega),if_neg (by omega),h.2.2.2]
theorem OwnLink.below {w w':World}{g n k:Nat}{f:Nat→Link}{B:Nat}(h:OwnLink w g n k f)(hb:Below B w w')(hB:g<B):OwnLink w' g n k f:=by
 obtain ⟨F,hr,hF⟩:=h
 exact ⟨F,hr.of_block (hb.block g hB),hF⟩
theorem OwnLink.row {w:World}{g n:Nat}{f:Nat→Link}(h:OwnLink w g n n f):RowLink w g 0 n f:=by
 obtain ⟨F,hr,hF⟩:=h
 refine ⟨hr.lt,fun i hi=>?_⟩
 have h:=hF i hi
 refine ⟨?_,?_,?_,?_⟩
 ·rw [Nat.zero_add,hr.cell (by omega),h.1]
 ·rw [Nat.zero_add,hr.cell (by omega),h.2.1]
 ·rw [Nat.zero_add,hr.cell (by omega),h.2.2.1]
 ·rw [Nat.zero_add,hr.cell (by omega),h.2.2.2]
theorem eqLink_same (name:ByteArray)(ask:Bool)(has:Bool)(at_:Int)(w:World) :
  Calls Tryz.prog 156 #[.agg #[.string name,.bool ask,.bool has,.int .i64 at_],.agg #[.string name,.bool ask,.bool has,.int .i64 at_]] w fun e w'=>e=.returned (.bool true)∧Below w.heap.size w w':=by
 go_enter Tryz.func156,Tryz.ntmps156
 go_wp2
 go_ret
 exact ⟨rfl,((Below.refl _ _).alloc lr _).alloc (by simp) _⟩
theorem eqLinkS_row (b off cap b2 off2 cap2 n:Nat)(f:Nat→Link)(w:World)(hn:n≤1048576)(hb:b<w.heap.size)(hf:∀ i,i<n→AtLink w b off i (f i))(hb2:b2<w.heap.size)(hf2:∀ i,i<n→AtLink w b2 off2 i (f i)) :
  Calls Tryz.prog 139 #[.slice (some ⟨b,off,none⟩) n cap,.slice (some ⟨b2,off2,none⟩) n cap2] w fun e w'=>e=.returned (.bool true)∧Below w.heap.size w w':=by
 have HF:=hide hf
 have HF2:=hide hf2
 clear hf hf2
 go_enter Tryz.func139,Tryz.ntmps139
 go_wp2
 go_loopw [5] (fun i wr=>∃ k:Nat,k≤n∧i=.int .i64 k∧Below w.heap.size w wr) (fun i _=>n - (intOf i).toNat)
 case atStart=>exact ⟨0,by omega,rfl,Below.refl _ _⟩
 case round =>
  obtain ⟨k,hk,rfl,hB⟩:=hrel
  have HB:=hide hB
  have hsz:w.heap.size≤wr.heap.size:=hB.size
  clear hB
  by_cases hlt:k<n
  ·obtain ⟨c0,c1,c2,c3⟩:=(HF.out k hlt).below HB.out hb
   obtain ⟨d0,d1,d2,d3⟩:=(HF2.out k hlt).below HB.out hb2
   go_wp2_with fail
   go_region_with (go_at_call 156;refine (eqLink_same _ _ _ _ _).mono ?_;rintro e w' ⟨rfl,hB'⟩)
   all_goals
    go_wp2
    exact ⟨⟨k+1,by omega,by go_num,Below.trans (by repeat (first | exact HB.out | apply Below.drew)) (hB'.mono hsz)⟩,by simp [intOf];omega⟩
  ·have e:k=n:=by omega
   subst e
   go_wp2
   go_ret
   exact ⟨rfl,HB.out⟩
theorem eqLinkS_nil (a a2:Option Addr)(cap cap2:Nat)(w:World) :
  Calls Tryz.prog 139 #[.slice a 0 cap,.slice a2 0 cap2] w fun e w'=>e=.returned (.bool true)∧w'=w:=by
 go_enter Tryz.func139,Tryz.ntmps139
 go_wp2
 go_loop [5] (fun i=>i=.int .i64 0) (fun _=>0)
 case atStart=>rfl
 case round =>
  subst hrel
  go_wp2
  go_ret
  exact ⟨rfl,rfl⟩
theorem eqLinkS_any (a a2:Option Addr)(cap cap2 n:Nat)(f:Nat→Link)(w:World)(hn:n≤1048576)(h:SlLink w a n f)(h2:SlLink w a2 n f) :
  Calls Tryz.prog 139 #[.slice a n cap,.slice a2 n cap2] w fun e w'=>e=.returned (.bool true)∧Below w.heap.size w w':=by
 by_cases hz:n=0
 ·subst hz
  exact (eqLinkS_nil a a2 cap cap2 w).mono fun _ _ ⟨a,b⟩=>⟨a,by rw [b];exact Below.refl _ _⟩
 ·rcases h with h | ⟨b,off,rfl,hb,hf⟩
  ·exact absurd h hz
  ·rcases h2 with h | ⟨b2,off2,rfl,hb2,hf2⟩
   ·exact absurd h hz
   ·exact eqLinkS_row b off cap b2 off2 cap2 n f w hn hb hf hb2 hf2
structure Deed where
 name:ByteArray
 kind:Int
 code:Int
 text:ByteArray
 actN:Nat
 act:Nat→Ins
 linksN:Nat
 links:Nat→Link
def FitsDeed (x:Deed):Prop:=x.actN≤1048576∧x.linksN≤1048576
def AtDeed (w:World)(b off i:Nat)(x:Deed):Prop :=
 w.cell? ⟨b,off+i*6,none⟩=some (.string x.name)∧w.cell? ⟨b,off+i*6+1,none⟩=some (.int .i64 x.kind)∧w.cell? ⟨b,off+i*6+2,none⟩=some (.int .i64 x.code)∧w.cell? ⟨b,off+i*6+3,none⟩=some (.string x.text)∧(∃ a cap,w.cell? ⟨b,off+i*6+4,none⟩=some (.slice a x.actN cap)∧SlIns w a x.actN x.act)∧(∃ a cap,w.cell? ⟨b,off+i*6+5,none⟩=some (.slice a x.linksN cap)∧SlLink w a x.linksN x.links)
theorem AtDeed.below {w w':World}{B b off i:Nat}{x:Deed}(h:AtDeed w b off i x)(hb:Below B w w')(hB:w.heap.size≤B)(hl:b<w.heap.size):AtDeed w' b off i x:=by
 obtain ⟨p0,p1,p2,p3,⟨a0,cap0,s0,r0⟩,⟨a1,cap1,s1,r1⟩⟩:=h
 refine ⟨(hb.cell (p:=⟨b,_,none⟩) (Nat.lt_of_lt_of_le hl hB)).trans p0,(hb.cell (p:=⟨b,_,none⟩) (Nat.lt_of_lt_of_le hl hB)).trans p1,(hb.cell (p:=⟨b,_,none⟩) (Nat.lt_of_lt_of_le hl hB)).trans p2,(hb.cell (p:=⟨b,_,none⟩) (Nat.lt_of_lt_of_le hl hB)).trans p3,⟨a0,cap0,(hb.cell (p:=⟨b,_,none⟩) (Nat.lt_of_lt_of_le hl hB)).trans s0,r0.below hb hB⟩,⟨a1,cap1,(hb.cell (p:=⟨b,_,none⟩) (Nat.lt_of_lt_of_le hl hB)).trans s1,r1.below hb hB⟩⟩
def RowDeed (w:World)(b off n:Nat)(f:Nat→Deed):Prop:=b<w.heap.size∧∀ i,i<n→AtDeed w b off i (f i)
theorem RowDeed.below {w w':World}{B b off n:Nat}{f:Nat→Deed}(h:RowDeed w b off n f)(hb:Below B w w')(hB:w.heap.size≤B):RowDeed w' b off n f :=
 ⟨Nat.lt_of_lt_of_le h.1 hb.size,fun i hi=>(h.2 i hi).below hb hB h.1⟩
def SlDeed (w:World)(a:Option Addr)(n:Nat)(f:Nat→Deed):Prop:=n=0∨∃ b off,a=some ⟨b,off,none⟩∧RowDeed w b off n f
theorem SlDeed.below {w w':World}{B:Nat}{a:Option Addr}{n:Nat}{f:Nat→Deed}(h:SlDeed w a n f)(hb:Below B w w')(hB:w.heap.size≤B):SlDeed w' a n f:=by
 rcases h with h | ⟨b,off,hv,hr⟩
 ·exact .inl h
 ·exact .inr ⟨b,off,hv,hr.below hb hB⟩
theorem RowDeed.sl {w:World}{b off n:Nat}{f:Nat→Deed}(h:RowDeed w b off n f):SlDeed w (some ⟨b,off,none⟩) n f:=.inr ⟨b,off,rfl,h⟩
theorem infoDeed:(Tryz.prog.info? 86).map (fun i=>(i.zero,i.size,i.bytes))=some (some (.agg #[.string ⟨#[]⟩,.int .i64 0,.int .i64 0,.string ⟨#[]⟩,.slice none 0 0,.slice none 0 0]),6,96):=by kernel_rfl
def OwnDeed (w:World)(g n k:Nat)(f:Nat→Deed):Prop :=
 ∃ (F:Nat→Value) (G0 G1:Nat→Nat),w.rowIs g 86 (n*6) F∧∀ i,i<k→F (i*6)=.string (f i).name∧F (i*6+1)=.int .i64 (f i).kind∧F (i*6+2)=.int .i64 (f i).code∧F (i*6+3)=.string (f i).text∧(F (i*6+4)=.slice (some ⟨G0 i,0,none⟩) (f i).actN (f i).actN∧RowIns w (G0 i) 0 (f i).actN (f i).act∧g<G0 i)∧(F (i*6+5)=.slice (some ⟨G1 i,0,none⟩) (f i).linksN (f i).linksN∧RowLink w (G1 i) 0 (f i).linksN (f i).links∧g<G1 i)
theorem OwnDeed.lt {w:World}{g n k:Nat}{f:Nat→Deed}(h:OwnDeed w g n k f):g<w.heap.size:=by
 obtain ⟨F,G0,G1,hr,_⟩:=h
 exact hr.lt
theorem OwnDeed.step {w:World}{g n k g0 g1:Nat}{f:Nat→Deed}(h:OwnDeed w g n k f)(R0:RowIns w g0 0 (f k).actN (f k).act)(hg0:g<g0)(R1:RowLink w g1 0 (f k).linksN (f k).links)(hg1:g<g1) :
  OwnDeed ((((((w.setCell ⟨g,k*6,none⟩ (.string (f k).name)).setCell ⟨g,k*6+1,none⟩ (.int .i64 (f k).kind)).setCell ⟨g,k*6+2,none⟩ (.int .i64 (f k).code)).setCell ⟨g,k*6+3,none⟩ (.string (f k).text)).setCell ⟨g,k*6+4,none⟩ (.slice (some ⟨g0,0,none⟩) (f k).actN (f k).actN)).setCell ⟨g,k*6+5,none⟩ (.slice (some ⟨g1,0,none⟩) (f k).linksN (f k).linksN)) g n (k+1) f:=by
 obtain ⟨F,G0,G1,hr,hF⟩:=h
 refine ⟨_,fun i=>if i=k then g0 else G0 i,fun i=>if i=k then g1 else G1 i,((((((hr.set _ _).set _ _).set _ _).set _ _).set _ _).set _ _),fun i hi=>?_⟩
 by_cases e:i=k
 ·subst e
  exact ⟨by simp,by simp,by simp,by simp,⟨by simp,by dsimp only;rw [if_pos rfl];exact ((((((R0).setOther _ (by first | (simp;omega) | simp) _).setOther _ (by first | (simp;omega) | simp) _).setOther _ (by first | (simp;omega) | simp) _).setOther _ (by first | (simp;omega) | simp) _).setOther _ (by first | (simp;omega) | simp) _).setOther _ (by first | (simp;omega) | simp) _,by dsimp only;rw [if_pos rfl];exact hg0⟩,⟨by simp,by dsimp only;rw [if_pos rfl];exact ((((((R1).setOther _ (by first | (simp;omega) | simp) _).setOther _ (by first | (simp;omega) | simp) _).setOther _ (by first | (simp;omega) | simp) _).setOther _ (by first | (simp;omega) | simp) _).setOther _ (by first | (simp;omega) | simp) _).setOther _ (by first | (simp;omega) | simp) _,by dsimp only;rw [if_pos rfl];exact hg1⟩⟩
 ·obtain ⟨p0,p1,p2,p3,⟨s0,r0,u0⟩,⟨s1,r1,u1⟩⟩:=hF i (by omega)
  refine ⟨?_,?_,?_,?_,?_,?_⟩
  ·show (if _ then _ else if _ then _ else if _ then _ else if _ then _ else if _ then _ else if _ then _ else _)=_
   rw [if_neg (by omega),if_neg (by omega),if_neg (by omega),if_neg (by omega),if_neg (by omega),if_neg (by omega),p0]
  ·show (if _ then _ else if _ then _ else if _ then _ else if _ then _ else if _ then _ else if _ then _ else _)=_
   rw [if_neg (by omega),if_neg (by omega),if_neg (by omega),if_neg (by omega),if_neg (by omega),if_neg (by omega),p1]
  ·show (if _ then _ else if _ then _ else if _ then _ else if _ then _ else if _ then _ else if _ then _ else _)=_
   rw [if_neg (by omega),if_neg (by omega),if_neg (by omega),if_neg (by omega),if_neg (by omega),if_neg (by omega),p2]
  ·show (if _ then _ else if _ then _ else if _ then _ else if _ then _ else if _ then _ else if _ then _ else _)=_
   rw [if_neg (by omega),if_neg (by omega),if_neg (by omega),if_neg (by omega),if_neg (by omega),if_neg (by omega),p3]
  ·dsimp only
   rw [if_neg e]
   refine ⟨?_,((((((r0).setOther _ (by first | (simp;omega) | simp) _).setOther _ (by first | (simp;omega) | simp) _).setOther _ (by first | (simp;omega) | simp) _).setOther _ (by first | (simp;omega) | simp) _).setOther _ (by first | (simp;omega) | simp) _).setOther _ (by first | (simp;omega) | simp) _,u0⟩
   show (if _ then _ else if _ then _ else if _ then _ else if _ then _ else if _ then _ else if _ then _ else _)=_
   rw [if_neg (by omega),if_neg (by omega),if_neg (by omega),if_neg (by omega),if_neg (by omega),if_neg (by omega),s0]
  ·dsimp only
   rw [if_neg e]
   refine ⟨?_,((((((r1).setOther _ (by first | (simp;omega) | simp) _).setOther _ (by first | (simp;omega) | simp) _).setOther _ (by first | (simp;omega) | simp) _).setOther _ (by first | (simp;omega) | simp) _).setOther _ (by first | (simp;omega) | simp) _).setOther _ (by first | (simp;omega) | simp) _,u1⟩
   show (if _ then _ else if _ then _ else if _ then _ else if _ then _ else if _ then _ else if _ then _ else _)=_
   rw [if_neg (by omega),if_neg (by omega),if_neg (by omega),if_neg (by omega),if_neg (by omega),if_neg (by omega),s1]
theorem OwnDeed.below {w w':World}{g n k:Nat}{f:Nat→Deed}{B:Nat}(h:OwnDeed w g n k f)(hb:Below B w w')(hB:w.heap.size≤B):OwnDeed w' g n k f:=by
 have hl:=h.lt
 obtain ⟨F,G0,G1,hr,hF⟩:=h
 refine ⟨F,G0,G1,hr.of_block (hb.block g (Nat.lt_of_lt_of_le hl hB)),fun i hi=>?_⟩
 obtain ⟨p0,p1,p2,p3,⟨s0,r0,u0⟩,⟨s1,r1,u1⟩⟩:=hF i hi
 exact ⟨p0,p1,p2,p3,⟨s0,r0.below hb hB,u0⟩,⟨s1,r1.below hb hB,u1⟩⟩
theorem OwnDeed.setOther {w:World}{g n k:Nat}{f:Nat→Deed}(h:OwnDeed w g n k f)(p:Addr)(hp:p.block<g)(v:Value):OwnDeed (w.setCell p v) g n k f:=by
 obtain ⟨F,G0,G1,hr,hF⟩:=h
 refine ⟨F,G0,G1,hr.setOther (by omega) v,fun i hi=>?_⟩
 obtain ⟨p0,p1,p2,p3,⟨s0,r0,u0⟩,⟨s1,r1,u1⟩⟩:=hF i hi
 exact ⟨p0,p1,p2,p3,⟨s0,r0.setOther p (by omega) v,u0⟩,⟨s1,r1.setOther p (by omega) v,u1⟩⟩
theorem OwnDeed.row {w:World}{g n:Nat}{f:Nat→Deed}(h:OwnDeed w g n n f):RowDeed w g 0 n f:=by
 obtain ⟨F,G0,G1,hr,hF⟩:=h
 refine ⟨hr.lt,fun i hi=>?_⟩
 obtain ⟨p0,p1,p2,p3,⟨s0,r0,u0⟩,⟨s1,r1,u1⟩⟩:=hF i hi
 refine ⟨?_,?_,?_,?_,?_,?_⟩
 ·rw [Nat.zero_add,hr.cell (by omega),p0]
 ·rw [Nat.zero_add,hr.cell (by omega),p1]
 ·rw [Nat.zero_add,hr.cell (by omega),p2]
 ·rw [Nat.zero_add,hr.cell (by omega),p3]
 ·exact ⟨_,_,by rw [Nat.zero_add,hr.cell (by omega),s0],r0.sl⟩
 ·exact ⟨_,_,by rw [Nat.zero_add,hr.cell (by omega),s1],r1.sl⟩
theorem eqDeed_any (x:Deed)(a0:Option Addr)(cap0:Nat)(a1:Option Addr)(cap1:Nat)(b0:Option Addr)(dap0:Nat)(b1:Option Addr)(dap1:Nat)(w:World)(hfit:FitsDeed x)(hv0:SlIns w a0 x.actN x.act)(hv1:SlLink w a1 x.linksN x.links)(hu0:SlIns w b0 x.actN x.act)(hu1:SlLink w b1 x.linksN x.links) :
  Calls Tryz.prog 103 #[.agg #[.string x.name,.int .i64 x.kind,.int .i64 x.code,.string x.text,.slice a0 x.actN cap0,.slice a1 x.linksN cap1],.agg #[.string x.name,.int .i64 x.kind,.int .i64 x.code,.string x.text,.slice b0 x.actN dap0,.slice b1 x.linksN dap1]] w fun e w'=>e=.returned (.bool true)∧Below w.heap.size w w':=by
 have V0:=hide hv0
 have V1:=hide hv1
 clear hv0 hv1
 have U0:=hide hu0
 have U1:=hide hu1
 clear hu0 hu1
 have hfit:=hide hfit
 have B0:Hid (Below w.heap.size w ((w.alloc (.cells #[.string x.name,.int .i64 x.kind,.int .i64 x.code,.string x.text,.slice a0 x.actN cap0,.slice a1 x.linksN cap1] 86)).alloc (.cells #[.string x.name,.int .i64 x.kind,.int .i64 x.code,.string x.text,.slice b0 x.actN dap0,.slice b1 x.linksN dap1] 86))):=((Below.refl _ _).alloc lr _).alloc (by simp) _
 go_enter Tryz.func103,Tryz.ntmps103
 go_wp2_with fail
 refine (eqProgram_any a0 b0 cap0 dap0 x.actN x.act _ hfit.out.1 (V0.out.below B0.out lr) (U0.out.below B0.out lr)).mono ?_
 rintro e w1 ⟨rfl,hB1⟩
 have bc1:=(bcell hB1).1
 have B1:=hide (B0.out.trans (hB1.mono B0.out.size))
 have hs1:w.heap.size+1<w1.heap.size:=by have:=hB1.size;first | omega | (simp at this;omega)
 have ht1:w.heap.size<w1.heap.size:=by omega
 clear hB1
 go_wp2_with fail
 refine (eqLinkS_any a1 b1 cap1 dap1 x.linksN x.links _ hfit.out.2 (V1.out.below B1.out lr) (U1.out.below B1.out lr)).mono ?_
 rintro e w2 ⟨rfl,hB2⟩
 have bc2:=(bcell hB2).1
 have B2:=hide (B1.out.trans (hB2.mono B1.out.size))
 have hs2:w.heap.size+1<w2.heap.size:=by have:=hB2.size;first | omega | (simp at this;omega)
 have ht2:w.heap.size<w2.heap.size:=by omega
 clear hB2
 go_wp2
 go_ret
 exact ⟨rfl,B2.out⟩
theorem eqDeedS_row (b off cap b2 off2 cap2 n:Nat)(f:Nat→Deed)(w:World)(hn:n≤1048576)(hf:RowDeed w b off n f)(hf2:RowDeed w b2 off2 n f)(hm:∀ i,i<n→FitsDeed (f i)) :
  Calls Tryz.prog 49 #[.slice (some ⟨b,off,none⟩) n cap,.slice (some ⟨b2,off2,none⟩) n cap2] w fun e w'=>e=.returned (.bool true)∧Below w.heap.size w w':=by
 have HF:=hide hf
 have HF2:=hide hf2
 have HM:=hide hm
 clear hf hf2 hm
 go_enter Tryz.func49,Tryz.ntmps49
 go_wp2
 go_loopw [5] (fun i wr=>∃ k:Nat,k≤n∧i=.int .i64 k∧Below w.heap.size w wr) (fun i _=>n - (intOf i).toNat)
 case atStart=>exact ⟨0,by omega,rfl,Below.refl _ _⟩
 case round =>
  obtain ⟨k,hk,rfl,hB⟩:=hrel
  have HB:=hide hB
  have hsz:w.heap.size≤wr.heap.size:=hB.size
  clear hB
  by_cases hlt:k<n
  ·obtain ⟨p0,p1,p2,p3,⟨a0,cap0,s0,r0⟩,⟨a1,cap1,s1,r1⟩⟩:=(HF.out.2 k hlt).below HB.out lr HF.out.1
   obtain ⟨q0,q1,q2,q3,⟨b0,dap0,t0,v0⟩,⟨b1,dap1,t1,v1⟩⟩:=(HF2.out.2 k hlt).below HB.out lr HF2.out.1
   have HR:=hide (show SlIns wr a0 (f k).actN (f k).act∧SlLink wr a1 (f k).linksN (f k).links from ⟨r0,r1⟩)
   have HR2:=hide (show SlIns wr b0 (f k).actN (f k).act∧SlLink wr b1 (f k).linksN (f k).links from ⟨v0,v1⟩)
   clear r0 r1 v0 v1
   go_wp2_with fail
   go_region_with (go_at_call 103;refine (eqDeed_any (f k) a0 cap0 a1 cap1 b0 dap0 b1 dap1 _ (HM.out k hlt) ?_ ?_ ?_ ?_).mono ?_;exact HR.out.1;exact HR.out.2;exact HR2.out.1;exact HR2.out.2;rintro e w' ⟨rfl,hB'⟩)
   all_goals
    go_wp2
    exact ⟨⟨k+1,by omega,by go_num,Below.trans (by repeat (first | exact HB.out | apply Below.drew)) (hB'.mono hsz)⟩,by simp [intOf];omega⟩
  ·have e:k=n:=by omega
   subst e
   go_wp2
   go_ret
   exact ⟨rfl,HB.out⟩
theorem eqDeedS_nil (a a2:Option Addr)(cap cap2:Nat)(w:World) :
  Calls Tryz.prog 49 #[.slice a 0 cap,.slice a2 0 cap2] w fun e w'=>e=.returned (.bool true)∧w'=w:=by
 go_enter Tryz.func49,Tryz.ntmps49
 go_wp2
 go_loop [5] (fun i=>i=.int .i64 0) (fun _=>0)
 case atStart=>rfl
 case round =>
  subst hrel
  go_wp2
  go_ret
  exact ⟨rfl,rfl⟩
theorem eqDeedS_any (a a2:Option Addr)(cap cap2 n:Nat)(f:Nat→Deed)(w:World)(hn:n≤1048576)(h:SlDeed w a n f)(h2:SlDeed w a2 n f)(hm:∀ i,i<n→FitsDeed (f i)) :
  Calls Tryz.prog 49 #[.slice a n cap,.slice a2 n cap2] w fun e w'=>e=.returned (.bool true)∧Below w.heap.size w w':=by
 by_cases hz:n=0
 ·subst hz
  exact (eqDeedS_nil a a2 cap cap2 w).mono fun _ _ ⟨a,b⟩=>⟨a,by rw [b];exact Below.refl _ _⟩
 ·rcases h with h | ⟨b,off,rfl,hr⟩
  ·exact absurd h hz
  ·rcases h2 with h | ⟨b2,off2,rfl,hr2⟩
   ·exact absurd h hz
   ·exact eqDeedS_row b off cap b2 off2 cap2 n f w hn hr hr2 hm
theorem reply_any (x:Deed)(a0:Option Addr)(cap0:Nat)(a1:Option Addr)(cap1:Nat)(w:World) :
  Calls Tryz.prog 178 #[.agg #[.string x.name,.int .i64 x.kind,.int .i64 x.code,.string x.text,.slice a0 x.actN cap0,.slice a1 x.linksN cap1]] w fun e w'=>e=.returned (.agg #[.bool (decide (¬ x.kind=2)),.int .i64 x.code,.string x.text])∧Below w.heap.size w w':=by
 have A0:=hide ((Below.refl w.heap.size w).alloc lr (.cells #[.string x.name,.int .i64 x.kind,.int .i64 x.code,.string x.text,.slice a0 x.actN cap0,.slice a1 x.linksN cap1] 86))
 obtain ⟨r,hr⟩:∃ r,r=decide (¬ x.kind=2):=⟨_,rfl⟩
 rw [← hr]
 have HR:=hide hr
 clear hr
 go_enter Tryz.func178,Tryz.ntmps178
 by_cases hk:x.kind=2
 ·obtain rfl:r=false:=by rw [HR.out];simp [hk]
  go_wp2
  exact bodyPost_ret (v:=.agg #[.bool false,.int .i64 x.code,.string x.text]) (by simp [results,Tryz.results178,go_sem]) rfl ⟨rfl,by
   repeat (first | exact A0.out | exact Below.refl _ _ | refine Below.alloc ?_ (by simp<;>omega) _)⟩
 ·obtain rfl:r=true:=by rw [HR.out];simp [hk]
  go_wp2
  exact bodyPost_ret (v:=.agg #[.bool true,.int .i64 x.code,.string x.text]) (by simp [results,Tryz.results178,go_sem,hk]) rfl ⟨rfl,by
   repeat (first | exact A0.out | exact Below.refl _ _ | refine Below.alloc ?_ (by simp<;>omega) _)⟩
theorem eqStringS_row (b off cap b2 off2 cap2 n:Nat)(f:Nat→ByteArray)(w:World)(hn:n≤1048576)(hf:RowStr w b off n f)(hf2:RowStr w b2 off2 n f) :
  Calls Tryz.prog 40 #[.slice (some ⟨b,off,none⟩) n cap,.slice (some ⟨b2,off2,none⟩) n cap2] w fun e w'=>e=.returned (.bool true)∧Below w.heap.size w w':=by
 have HF:=hide hf
 have HF2:=hide hf2
 clear hf hf2
 go_enter Tryz.func40,Tryz.ntmps40
 go_wp2
 go_loopw [5] (fun i wr=>∃ k:Nat,k≤n∧i=.int .i64 k∧Below w.heap.size w wr) (fun i _=>n - (intOf i).toNat)
 case atStart=>exact ⟨0,by omega,rfl,Below.refl _ _⟩
 case round =>
  obtain ⟨k,hk,rfl,hB⟩:=hrel
  have HB:=hide hB
  clear hB
  by_cases hlt:k<n
  ·have c0:=(HF.out.below HB.out lr).2 k hlt
   have d0:=(HF2.out.below HB.out lr).2 k hlt
   go_wp2_with fail
   go_quiet (fail)
   have HB1:=hide (below_drewN HB.out nq)
   clear c0 d0
   generalize wr.drewN nq=W at HB1 ⊢
   have c0:=(HF.out.below HB1.out lr).2 k hlt
   have d0:=(HF2.out.below HB1.out lr).2 k hlt
   go_wp2
   exact ⟨⟨k+1,by omega,by go_num,HB1.out⟩,by simp [intOf];omega⟩
  ·have e:k=n:=by omega
   subst e
   go_wp2
   go_ret
   exact ⟨rfl,HB.out⟩
theorem eqStringS_nil (a a2:Option Addr)(cap cap2:Nat)(w:World) :
  Calls Tryz.prog 40 #[.slice a 0 cap,.slice a2 0 cap2] w fun e w'=>e=.returned (.bool true)∧w'=w:=by
 go_enter Tryz.func40,Tryz.ntmps40
 go_wp2
 go_loop [5] (fun i=>i=.int .i64 0) (fun _=>0)
 case atStart=>rfl
 case round =>
  subst hrel
  go_wp2
  go_ret
  exact ⟨rfl,rfl⟩
theorem eqStringS_any (a a2:Option Addr)(cap cap2 n:Nat)(f:Nat→ByteArray)(w:World)(hn:n≤1048576)(h:SlStr w a n f)(h2:SlStr w a2 n f) :
  Calls Tryz.prog 40 #[.slice a n cap,.slice a2 n cap2] w fun e w'=>e=.returned (.bool true)∧Below w.heap.size w w':=by
 by_cases hz:n=0
 ·subst hz
  exact (eqStringS_nil a a2 cap cap2 w).mono fun _ _ ⟨a,b⟩=>⟨a,by rw [b];exact Below.refl _ _⟩
 ·rcases h with h | ⟨b,off,rfl,hf⟩
  ·exact absurd h hz
  ·rcases h2 with h | ⟨b2,off2,rfl,hf2⟩
   ·exact absurd h hz
   ·exact eqStringS_row b off cap b2 off2 cap2 n f w hn hf hf2
structure Result where
 code:Int
 text:ByteArray
 chainN:Nat
 chain:Nat→ByteArray
def FitsResult (x:Result):Prop:=x.chainN≤1048576
def AtResult (w:World)(b off i:Nat)(x:Result):Prop :=
 w.cell? ⟨b,off+i*3,none⟩=some (.int .i64 x.code)∧w.cell? ⟨b,off+i*3+1,none⟩=some (.string x.text)∧(∃ a cap,w.cell? ⟨b,off+i*3+2,none⟩=some (.slice a x.chainN cap)∧SlStr w a x.chainN x.chain)
theorem AtResult.below {w w':World}{B b off i:Nat}{x:Result}(h:AtResult w b off i x)(hb:Below B w w')(hB:w.heap.size≤B)(hl:b<w.heap.size):AtResult w' b off i x:=by
 obtain ⟨p0,p1,⟨a0,cap0,s0,r0⟩⟩:=h
 refine ⟨(hb.cell (p:=⟨b,_,none⟩) (Nat.lt_of_lt_of_le hl hB)).trans p0,(hb.cell (p:=⟨b,_,none⟩) (Nat.lt_of_lt_of_le hl hB)).trans p1,⟨a0,cap0,(hb.cell (p:=⟨b,_,none⟩) (Nat.lt_of_lt_of_le hl hB)).trans s0,r0.below hb hB⟩⟩
def RowResult (w:World)(b off n:Nat)(f:Nat→Result):Prop:=b<w.heap.size∧∀ i,i<n→AtResult w b off i (f i)
theorem RowResult.below {w w':World}{B b off n:Nat}{f:Nat→Result}(h:RowResult w b off n f)(hb:Below B w w')(hB:w.heap.size≤B):RowResult w' b off n f :=
 ⟨Nat.lt_of_lt_of_le h.1 hb.size,fun i hi=>(h.2 i hi).below hb hB h.1⟩
def SlResult (w:World)(a:Option Addr)(n:Nat)(f:Nat→Result):Prop:=n=0∨∃ b off,a=some ⟨b,off,none⟩∧RowResult w b off n f
theorem SlResult.below {w w':World}{B:Nat}{a:Option Addr}{n:Nat}{f:Nat→Result}(h:SlResult w a n f)(hb:Below B w w')(hB:w.heap.size≤B):SlResult w' a n f:=by
 rcases h with h | ⟨b,off,hv,hr⟩
 ·exact .inl h
 ·exact .inr ⟨b,off,hv,hr.below hb hB⟩
theorem RowResult.sl {w:World}{b off n:Nat}{f:Nat→Result}(h:RowResult w b off n f):SlResult w (some ⟨b,off,none⟩) n f:=.inr ⟨b,off,rfl,h⟩
theorem eqResult_any (x:Result)(a0:Option Addr)(cap0:Nat)(b0:Option Addr)(dap0:Nat)(w:World)(hfit:FitsResult x)(hv0:SlStr w a0 x.chainN x.chain)(hu0:SlStr w b0 x.chainN x.chain) :
  Calls Tryz.prog 10 #[.agg #[.int .i64 x.code,.string x.text,.slice a0 x.chainN cap0],.agg #[.int .i64 x.code,.string x.text,.slice b0 x.chainN dap0]] w fun e w'=>e=.returned (.bool true)∧Below w.heap.size w w':=by
 have V0:=hide hv0
 clear hv0
 have U0:=hide hu0
 clear hu0
 have hfit:=hide hfit
 have B0:Hid (Below w.heap.size w ((w.alloc (.cells #[.int .i64 x.code,.string x.text,.slice a0 x.chainN cap0] 29)).alloc (.cells #[.int .i64 x.code,.string x.text,.slice b0 x.chainN dap0] 29))):=((Below.refl _ _).alloc lr _).alloc (by simp) _
 go_enter Tryz.func10,Tryz.ntmps10
 go_wp2_with fail
 refine (eqStringS_any a0 b0 cap0 dap0 x.chainN x.chain _ hfit.out (V0.out.below B0.out lr) (U0.out.below B0.out lr)).mono ?_
 rintro e w1 ⟨rfl,hB1⟩
 have bc1:=(bcell hB1).1
 have B1:=hide (B0.out.trans (hB1.mono B0.out.size))
 have hs1:w.heap.size+1<w1.heap.size:=by have:=hB1.size;first | omega | (simp at this;omega)
 have ht1:w.heap.size<w1.heap.size:=by omega
 clear hB1
 go_wp2
 go_ret
 exact ⟨rfl,B1.out⟩
theorem eqAccount_any (a a2:Option Addr)(cap cap2 n:Nat)(f:Nat→Deed)(w:World)(hn:n≤1048576)(h:SlDeed w a n f)(h2:SlDeed w a2 n f)(hm:∀ i,i<n→FitsDeed (f i)) :
  Calls Tryz.prog 17 #[.agg #[.slice a n cap],.agg #[.slice a2 n cap2]] w fun e w'=>e=.returned (.bool true)∧Below w.heap.size w w':=by
 have HF:=hide h
 have HF2:=hide h2
 clear h h2
 go_enter Tryz.func17,Tryz.ntmps17
 go_wp2_with fail
 have hA:=hide (((Below.refl w.heap.size w).alloc lr (.cells #[.slice a n cap] 43)).alloc (by simp) (.cells #[.slice a2 n cap2] 43))
 refine (eqDeedS_any a a2 cap cap2 n f _ hn (HF.out.below hA.out lr) (HF2.out.below hA.out lr) hm).mono ?_
 rintro e w' ⟨rfl,hB⟩
 go_wp2
 go_ret
 exact ⟨rfl,hA.out.trans (hB.mono (by simp;omega))⟩
def firstNo (g:Nat→Bool):Nat→Int
 | 0=>-1
 | k+1=>if firstNo g k=-1 then (if g k=true then -1 else k) else firstNo g k
theorem firstNo_all {g:Nat→Bool}{n:Nat}(h:∀ i,i<n→g i=true):firstNo g n=-1:=by
 induction n with
 | zero=>rfl
 | succ k ih =>
  rw [firstNo,if_pos (ih fun i hi=>h i (by omega)),if_pos (h k (by omega))]
theorem firstNo_at {g:Nat→Bool}{n i:Nat}(hi:i<n)(hg:g i=false)(h:∀ j,j<i→g j=true):firstNo g n=i:=by
 induction n with
 | zero=>omega
 | succ k ih =>
  rw [firstNo]
  by_cases e:i=k
  ·subst e
   rw [if_pos (firstNo_all h),if_neg (by rw [hg];simp)]
  ·have:=ih (by omega)
   rw [this,if_neg (by omega)]
def put (s:Nat→Bool)(p:Nat):Nat→Bool:=fun q=>q == p || s q
def cnt (s:Nat→Bool):Nat→Nat
 | 0=>0
 | k+1=>cnt s k+(if s k=true then 1 else 0)
end Go.Proofs.YtfnbojfnelfnkaaGreatDoor.Vp
