import Derived.Test.YtfnbojfnelfnkaaGreatDoorZD
set_option maxHeartbeats 2000000
namespace Go.Proofs.YtfnbojfnelfnkaaGreatDoor.Vp
open Go.RowKit
structure Source where
 name:ByteArray
 text:ByteArray
def AtSource (w:World)(b off i:Nat)(x:Source):Prop :=
 w.cell? ⟨b,off+i*2,none⟩=some (.string x.name)∧w.cell? ⟨b,off+i*2+1,none⟩=some (.string x.text)
theorem AtSource.below {w w':World}{B b off i:Nat}{x:Source}(h:AtSource w b off i x)(hb:Below B w w')(hB:b<B):AtSource w' b off i x :=
 ⟨(hb.cell (p:=⟨b,_,none⟩) hB).trans h.1,(hb.cell (p:=⟨b,_,none⟩) hB).trans h.2⟩
def RowSource (w:World)(b off n:Nat)(f:Nat→Source):Prop:=b<w.heap.size∧∀ i,i<n→AtSource w b off i (f i)
theorem RowSource.below {w w':World}{B b off n:Nat}{f:Nat→Source}(h:RowSource w b off n f)(hb:Below B w w')(hB:w.heap.size≤B):RowSource w' b off n f :=
 ⟨Nat.lt_of_lt_of_le h.1 hb.size,fun i hi=>(h.2 i hi).below hb (Nat.lt_of_lt_of_le h.1 hB)⟩
theorem RowSource.setOther {w:World}{g n off:Nat}{f:Nat→Source}(h:RowSource w g off n f)(p:Addr)(hp:p.block≠g)(v:Value):RowSource (w.setCell p v) g off n f:=by
 refine ⟨by simpa using h.1,fun i hi=>?_⟩
 have h:=h.2 i hi
 have far:∀ o,(w.setCell p v).cell? ⟨g,o,none⟩=w.cell? ⟨g,o,none⟩:=fun o=>World.cell?_of_block (w:=w) (a:=⟨g,o,none⟩) (Below.heap_setCell w p v g (fun e=>hp e.symm))
 exact ⟨(far _).trans h.1,(far _).trans h.2⟩
def SlSource (w:World)(a:Option Addr)(n:Nat)(f:Nat→Source):Prop:=n=0∨∃ b off,a=some ⟨b,off,none⟩∧RowSource w b off n f
theorem SlSource.below {w w':World}{B:Nat}{a:Option Addr}{n:Nat}{f:Nat→Source}(h:SlSource w a n f)(hb:Below B w w')(hB:w.heap.size≤B):SlSource w' a n f:=by
 rcases h with h | ⟨b,off,hv,hr⟩
 ·exact .inl h
 ·exact .inr ⟨b,off,hv,hr.below hb hB⟩
theorem RowSource.sl {w:World}{b off n:Nat}{f:Nat→Source}(h:RowSource w b off n f):SlSource w (some ⟨b,off,none⟩) n f:=.inr ⟨b,off,rfl,h⟩
theorem szSource_any (name:ByteArray)(text:ByteArray)(left:Int)(w:World)(hsname:name.size≤maxLen)(hstext:text.size≤maxLen)(l0:0≤left)(l1:left≤1048576) :
  Calls Tryz.prog 88 #[.agg #[.string name,.string text],.int .i64 left] w fun e w'=>∃ r:Int,e=.returned (.int .i64 r)∧-1≤r∧r≤left∧Below w.heap.size w w':=by
 unfold maxLen at hsname hstext
 go_enter Tryz.func88,Tryz.ntmps88
 go_wp2
 all_goals go_ret
 all_goals first
  | exact ⟨-1,rfl,by omega,by omega,(Below.refl _ _).alloc lr _⟩
  | exact ⟨_,rfl,by omega,by omega,(Below.refl _ _).alloc lr _⟩
theorem szSourceS_big (a:Option Addr)(n cap:Nat)(left:Int)(w:World)(h0:0≤left)(h1:left≤1048576)(hn:(n:Int)≤9223372036854775807)(h:left<(n:Int)) :
  Calls Tryz.prog 31 #[.slice a n cap,.int .i64 left] w fun e w'=>e=.returned (.int .i64 (-1))∧w'=w:=by
 go_enter Tryz.func31,Tryz.ntmps31
 go_wp2
 go_ret
 exact ⟨rfl,rfl⟩
theorem szSourceS_row (b off n cap:Nat)(f:Nat→Source)(left:Int)(w:World)(h0:(n:Int)≤left)(h1:left≤1048576)(hb:b<w.heap.size)(hf:∀ i,i<n→AtSource w b off i (f i))(hs:∀ i,i<n→(f i).name.size≤maxLen∧(f i).text.size≤maxLen) :
  Calls Tryz.prog 31 #[.slice (some ⟨b,off,none⟩) n cap,.int .i64 left] w fun e w'=>∃ r:Int,e=.returned (.int .i64 r)∧-1≤r∧r≤left∧Below w.heap.size w w':=by
 have HF:=hide hf
 have HS:=hide hs
 clear hf hs
 go_enter Tryz.func31,Tryz.ntmps31
 go_wp2
 go_loopw [1,5] (fun l i wr=>∃ k:Nat,∃ r:Int,k≤n∧0≤r∧r≤left∧i=.int .i64 k∧l=.int .i64 r∧Below w.heap.size w wr) (fun _ i _=>n - (intOf i).toNat)
 case atStart=>exact ⟨0,left - n,by omega,by omega,by omega,rfl,rfl,Below.refl _ _⟩
 case round =>
  obtain ⟨k,r,hk,hr0,hr1,rfl,rfl,hB⟩:=hrel
  by_cases hlt:k<n
  ·obtain ⟨c0,c1⟩:=(HF.out k hlt).below hB hb
   go_wp2_with (go_at_call 88;refine (szSource_any _ _ _ _ (HS.out k hlt).1 (HS.out k hlt).2 (by omega) (by omega)).mono ?_;rintro e w' ⟨r',rfl,hr2,hr3,hB'⟩)
   ·go_ret
    exact ⟨-1,rfl,by omega,by omega,hB.trans (hB'.mono hB.size)⟩
   ·exact ⟨⟨k+1,r',by omega,by omega,by omega,by go_num,rfl,hB.trans (hB'.mono hB.size)⟩,by simp [intOf];omega⟩
  ·go_wp2
   go_ret
   exact ⟨r,rfl,by omega,by omega,hB⟩
theorem szSourceS_nil (a:Option Addr)(cap:Nat)(left:Int)(w:World)(h0:0≤left)(h1:left≤1048576) :
  Calls Tryz.prog 31 #[.slice a 0 cap,.int .i64 left] w fun e w'=>e=.returned (.int .i64 left)∧w'=w:=by
 go_enter Tryz.func31,Tryz.ntmps31
 go_wp2
 go_loop [1,5] (fun l i=>l=.int .i64 left∧i=.int .i64 0) (fun _ _=>0)
 case atStart=>exact ⟨by simp,rfl⟩
 case round =>
  obtain ⟨rfl,rfl⟩:=hrel
  go_wp2
  go_ret
  exact ⟨rfl,rfl⟩
theorem szSourceS_any (a:Option Addr)(n cap:Nat)(f:Nat→Source)(left:Int)(w:World)(h0:0≤left)(h1:left≤1048576)(hn:(n:Int)≤9223372036854775807)(hv:SlSource w a n f)(hs:∀ i,i<n→(f i).name.size≤maxLen∧(f i).text.size≤maxLen) :
  Calls Tryz.prog 31 #[.slice a n cap,.int .i64 left] w fun e w'=>∃ r:Int,e=.returned (.int .i64 r)∧-1≤r∧r≤left∧(0≤r→(n:Int)≤left)∧Below w.heap.size w w':=by
 rcases hv with rfl | ⟨b,off,rfl,hl,hc⟩
 ·exact (szSourceS_nil a cap left w h0 h1).mono fun e w' ⟨a,b⟩=>⟨_,a,by omega,by omega,fun _=>by omega,by rw [b];exact Below.refl _ _⟩
 ·by_cases h:(n:Int)≤left
  ·exact (szSourceS_row b off n cap f left w h h1 hl hc hs).mono fun e w' ⟨r,a,b,c,d⟩=>⟨r,a,b,c,fun _=>h,d⟩
  ·exact (szSourceS_big _ n cap left w h0 h1 hn (by omega)).mono fun e w' ⟨a,b⟩=>⟨_,a,by omega,by omega,fun _=>by omega,by rw [b];exact Below.refl _ _⟩
theorem infoSource:(Tryz.prog.info? 107).map (fun i=>(i.zero,i.size,i.bytes))=some (some (.agg #[.string ⟨#[]⟩,.string ⟨#[]⟩]),2,32):=by kernel_rfl
def zerosSource (n:Nat):Array Value:=madeCells (Value.agg #[.string ⟨#[]⟩,.string ⟨#[]⟩]).cells (n*2)
theorem mkSource (n:Nat)(hn:n≤1048576)(w:World):(Instr.makeSlice 31 (.int .i64 (n:Int)) (.int .i64 (n:Int))).run Tryz.prog w=.ok (.slice (some ⟨w.heap.size,0,none⟩) n n) (w.alloc (.cells (zerosSource n) 107)):=by
 obtain ⟨i,hi,hz⟩:=Option.map_eq_some_iff.1 infoSource
 simp only [Prod.mk.injEq] at hz
 obtain ⟨h1,h2,h3⟩:=hz
 have h:=run_make (P:=Tryz.prog) w 31 107 i _ Tryz.underlying31 hi h1 .i64 .i64 n n (by omega) (Int.le_refl _) (by rw [h3];omega) (by omega)
 rw [h2] at h
 simpa [zerosSource] using h
def OwnSource (w:World)(g n k:Nat)(f:Nat→Source):Prop :=
 ∃ F,w.rowIs g 107 (n*2) F∧∀ i,i<k→F (i*2)=.string (f i).name∧F (i*2+1)=.string (f i).text
theorem ownSource_start (w:World)(n:Nat)(f:Nat→Source):OwnSource (w.alloc (.cells (zerosSource n) 107)) w.heap.size n 0 f:=by
 have hz:(zerosSource n).size=n*2:=size_madeCells _ _
 have h:=World.rowIs_alloc w (zerosSource n) 107 (fun i=>(zerosSource n)[i]?.getD undef) (fun i hi=>by rw [Array.getElem?_eq_getElem hi];rfl)
 rw [hz] at h
 exact ⟨_,h,fun i hi=>absurd hi (Nat.not_lt_zero _)⟩
theorem OwnSource.step {w:World}{g n k:Nat}{f:Nat→Source}(h:OwnSource w g n k f) :
  OwnSource ((w.setCell ⟨g,k*2,none⟩ (.string (f k).name)).setCell ⟨g,k*2+1,none⟩ (.string (f k).text)) g n (k+1) f:=by
 obtain ⟨F,hr,hF⟩:=h
 refine ⟨_,((hr.set _ _).set _ _),fun i hi=>?_⟩
 by_cases e:i=k
 ·subst e
  exact ⟨by simp,by simp⟩
 ·have h:=hF i (by omega)
  refine ⟨?_,?_⟩
  ·show (if _ then _ else if _ then _ else _)=_
   rw [if_neg (by omega),if_neg (by omega),h.1]
  ·show (if _ then _ else if _ then _ else _)=_
   rw [if_neg (by omega),if_neg (by omega),h.2]
theorem OwnSource.below {w w':World}{g n k:Nat}{f:Nat→Source}{B:Nat}(h:OwnSource w g n k f)(hb:Below B w w')(hB:g<B):OwnSource w' g n k f:=by
 obtain ⟨F,hr,hF⟩:=h
 exact ⟨F,hr.of_block (hb.block g hB),hF⟩
theorem OwnSource.row {w:World}{g n:Nat}{f:Nat→Source}(h:OwnSource w g n n f):RowSource w g 0 n f:=by
 obtain ⟨F,hr,hF⟩:=h
 refine ⟨hr.lt,fun i hi=>?_⟩
 have h:=hF i hi
 refine ⟨?_,?_⟩
 ·rw [Nat.zero_add,hr.cell (by omega),h.1]
 ·rw [Nat.zero_add,hr.cell (by omega),h.2]
theorem toSource_any (name:ByteArray)(text:ByteArray)(w:World) :
  Calls Tryz.prog 91 #[.agg #[.string name,.string text]] w fun e w'=>e=.returned (.agg #[.string name,.string text])∧Below w.heap.size w w':=by
 go_enter Tryz.func91,Tryz.ntmps91
 go_wp2
 refine bodyPost_ret (v:=.agg #[.string name,.string text]) (by simp [results,Tryz.results91,go_sem]) rfl ⟨rfl,?_⟩
 exact (((Below.refl _ _).alloc lr _).alloc (by simp) _).alloc (by simp;omega) _
theorem toSourceS_row (b off n cap:Nat)(f:Nat→Source)(w:World)(hn:n≤1048576)(hb:b<w.heap.size)(hf:∀ i,i<n→AtSource w b off i (f i)) :
  Calls Tryz.prog 37 #[.slice (some ⟨b,off,none⟩) n cap] w fun e w'=>∃ g,e=.returned (.slice (some ⟨g,0,none⟩) n n)∧RowSource w' g 0 n f∧w.heap.size≤g∧Below w.heap.size w w':=by
 have HF:=hide hf
 clear hf
 have hmk:=mkSource n hn
 go_enter Tryz.func37,Tryz.ntmps37
 go_wp2
 clear hmk
 go_loopw [4] (fun i wr=>∃ k:Nat,k≤n∧i=.int .i64 k∧OwnSource wr w.heap.size n k f∧Below w.heap.size w wr) (fun i _=>n - (intOf i).toNat)
 case atStart=>exact ⟨0,by omega,rfl,ownSource_start w n f,(Below.refl _ _).alloc lr _⟩
 case round =>
  obtain ⟨k,hk,rfl,hO,hB⟩:=hrel
  have HO:=hide hO
  by_cases hlt:k<n
  ·obtain ⟨c0,c1⟩:=(HF.out k hlt).below hB hb
   clear hO
   go_wp2_with fail
   refine (toSource_any _ _ _).mono ?_
   rintro e w1 ⟨rfl,hB1⟩
   have HO1:Hid (OwnSource w1 w.heap.size n k f):=HO.out.below hB1 (by obtain ⟨F,hr,_⟩:=HO.out;exact hr.lt)
   obtain ⟨F,hr,_⟩:=HO1.out
   have d0:=hr.cell (i:=k*2) (by omega)
   have z0:=hr.frozen (k*2)
   have d1:=hr.cell (i:=k*2+1) (by omega)
   have z1:=hr.frozen (k*2+1)
   clear hr c0 c1
   go_wp2
   exact ⟨⟨k+1,by omega,by go_num,HO1.out.step,((hB.trans (hB1.mono hB.size)).setCell lr _).setCell lr _⟩,by simp [intOf];omega⟩
  ·have e:k=n:=by omega
   subst e
   clear hO
   go_wp2
   go_ret
   exact ⟨_,rfl,HO.out.row,Nat.le_refl _,hB⟩
theorem toSourceS_nil (a:Option Addr)(cap:Nat)(f:Nat→Source)(w:World) :
  Calls Tryz.prog 37 #[.slice a 0 cap] w fun e w'=>∃ g,e=.returned (.slice (some ⟨g,0,none⟩) 0 0)∧RowSource w' g 0 0 f∧w.heap.size≤g∧Below w.heap.size w w':=by
 have hmk:∀ w:World,(Instr.makeSlice 31 (.int .i64 0) (.int .i64 0)).run Tryz.prog w=.ok (.slice (some ⟨w.heap.size,0,none⟩) 0 0) (w.alloc (.cells (zerosSource 0) 107)):=fun w=>mkSource 0 (by omega) w
 go_enter Tryz.func37,Tryz.ntmps37
 go_wp2
 clear hmk
 go_loop [4] (fun i=>i=.int .i64 0) (fun _=>0)
 case atStart=>rfl
 case round =>
  subst hrel
  go_wp2
  go_ret
  exact ⟨_,rfl,(ownSource_start w 0 f).row,Nat.le_refl _,(Below.refl _ _).alloc lr _⟩
theorem toSourceS_any (a:Option Addr)(n cap:Nat)(f:Nat→Source)(w:World)(hn:n≤1048576)(hv:SlSource w a n f) :
  Calls Tryz.prog 37 #[.slice a n cap] w fun e w'=>∃ g,e=.returned (.slice (some ⟨g,0,none⟩) n n)∧RowSource w' g 0 n f∧w.heap.size≤g∧Below w.heap.size w w':=by
 rcases hv with rfl | ⟨b,off,rfl,hl,hc⟩
 ·exact toSourceS_nil a cap f w
 ·exact toSourceS_row b off n cap f w hn hl hc
theorem eqSource_same (name:ByteArray)(text:ByteArray)(w:World) :
  Calls Tryz.prog 97 #[.agg #[.string name,.string text],.agg #[.string name,.string text]] w fun e w'=>e=.returned (.bool true)∧Below w.heap.size w w':=by
 go_enter Tryz.func97,Tryz.ntmps97
 go_wp2
 go_ret
 exact ⟨rfl,((Below.refl _ _).alloc lr _).alloc (by simp) _⟩
theorem eqSourceS_row (b off cap b2 off2 cap2 n:Nat)(f:Nat→Source)(w:World)(hn:n≤1048576)(hb:b<w.heap.size)(hf:∀ i,i<n→AtSource w b off i (f i))(hb2:b2<w.heap.size)(hf2:∀ i,i<n→AtSource w b2 off2 i (f i)) :
  Calls Tryz.prog 41 #[.slice (some ⟨b,off,none⟩) n cap,.slice (some ⟨b2,off2,none⟩) n cap2] w fun e w'=>e=.returned (.bool true)∧Below w.heap.size w w':=by
 have HF:=hide hf
 have HF2:=hide hf2
 clear hf hf2
 go_enter Tryz.func41,Tryz.ntmps41
 go_wp2
 go_loopw [5] (fun i wr=>∃ k:Nat,k≤n∧i=.int .i64 k∧Below w.heap.size w wr) (fun i _=>n - (intOf i).toNat)
 case atStart=>exact ⟨0,by omega,rfl,Below.refl _ _⟩
 case round =>
  obtain ⟨k,hk,rfl,hB⟩:=hrel
  have HB:=hide hB
  have hsz:w.heap.size≤wr.heap.size:=hB.size
  clear hB
  by_cases hlt:k<n
  ·obtain ⟨c0,c1⟩:=(HF.out k hlt).below HB.out hb
   obtain ⟨d0,d1⟩:=(HF2.out k hlt).below HB.out hb2
   go_wp2_with fail
   go_region_with (go_at_call 97;refine (eqSource_same _ _ _).mono ?_;rintro e w' ⟨rfl,hB'⟩)
   all_goals
    go_wp2
    exact ⟨⟨k+1,by omega,by go_num,Below.trans (by repeat (first | exact HB.out | apply Below.drew)) (hB'.mono hsz)⟩,by simp [intOf];omega⟩
  ·have e:k=n:=by omega
   subst e
   go_wp2
   go_ret
   exact ⟨rfl,HB.out⟩
theorem eqSourceS_nil (a a2:Option Addr)(cap cap2:Nat)(w:World) :
  Calls Tryz.prog 41 #[.slice a 0 cap,.slice a2 0 cap2] w fun e w'=>e=.returned (.bool true)∧w'=w:=by
 go_enter Tryz.func41,Tryz.ntmps41
 go_wp2
 go_loop [5] (fun i=>i=.int .i64 0) (fun _=>0)
 case atStart=>rfl
 case round =>
  subst hrel
  go_wp2
  go_ret
  exact ⟨rfl,rfl⟩
theorem eqSourceS_any (a a2:Option Addr)(cap cap2 n:Nat)(f:Nat→Source)(w:World)(hn:n≤1048576)(h:SlSource w a n f)(h2:SlSource w a2 n f) :
  Calls Tryz.prog 41 #[.slice a n cap,.slice a2 n cap2] w fun e w'=>e=.returned (.bool true)∧Below w.heap.size w w':=by
 by_cases hz:n=0
 ·subst hz
  exact (eqSourceS_nil a a2 cap cap2 w).mono fun _ _ ⟨a,b⟩=>⟨a,by rw [b];exact Below.refl _ _⟩
 ·rcases h with h | ⟨b,off,rfl,hb,hf⟩
  ·exact absurd h hz
  ·rcases h2 with h | ⟨b2,off2,rfl,hb2,hf2⟩
   ·exact absurd h hz
   ·exact eqSourceS_row b off cap b2 off2 cap2 n f w hn hb hf hb2 hf2
theorem eqIns_same (op:Int)(s:ByteArray)(n:Int)(w:World) :
  Calls Tryz.prog 166 #[.agg #[.int .i64 op,.string s,.int .i64 n],.agg #[.int .i64 op,.string s,.int .i64 n]] w fun e w'=>e=.returned (.bool true)∧Below w.heap.size w w':=by
 go_enter Tryz.func166,Tryz.ntmps166
 go_wp2
 go_ret
 exact ⟨rfl,((Below.refl _ _).alloc lr _).alloc (by simp) _⟩
theorem eqInsS_row (b off cap b2 off2 cap2 n:Nat)(f:Nat→Ins)(w:World)(hn:n≤1048576)(hb:b<w.heap.size)(hf:∀ i,i<n→AtIns w b off i (f i))(hb2:b2<w.heap.size)(hf2:∀ i,i<n→AtIns w b2 off2 i (f i)) :
  Calls Tryz.prog 155 #[.slice (some ⟨b,off,none⟩) n cap,.slice (some ⟨b2,off2,none⟩) n cap2] w fun e w'=>e=.returned (.bool true)∧Below w.heap.size w w':=by
 have HF:=hide hf
 have HF2:=hide hf2
 clear hf hf2
 go_enter Tryz.func155,Tryz.ntmps155
 go_wp2
 go_loopw [5] (fun i wr=>∃ k:Nat,k≤n∧i=.int .i64 k∧Below w.heap.size w wr) (fun i _=>n - (intOf i).toNat)
 case atStart=>exact ⟨0,by omega,rfl,Below.refl _ _⟩
 case round =>
  obtain ⟨k,hk,rfl,hB⟩:=hrel
  have HB:=hide hB
  have hsz:w.heap.size≤wr.heap.size:=hB.size
  clear hB
  by_cases hlt:k<n
  ·obtain ⟨c0,c1,c2⟩:=(HF.out k hlt).below HB.out hb
   obtain ⟨d0,d1,d2⟩:=(HF2.out k hlt).below HB.out hb2
   go_wp2_with fail
   go_region_with (go_at_call 166;refine (eqIns_same _ _ _ _).mono ?_;rintro e w' ⟨rfl,hB'⟩)
   all_goals
    go_wp2
    exact ⟨⟨k+1,by omega,by go_num,Below.trans (by repeat (first | exact HB.out | apply Below.drew)) (hB'.mono hsz)⟩,by simp [intOf];omega⟩
  ·have e:k=n:=by omega
   subst e
   go_wp2
   go_ret
   exact ⟨rfl,HB.out⟩
theorem eqInsS_nil (a a2:Option Addr)(cap cap2:Nat)(w:World) :
  Calls Tryz.prog 155 #[.slice a 0 cap,.slice a2 0 cap2] w fun e w'=>e=.returned (.bool true)∧w'=w:=by
 go_enter Tryz.func155,Tryz.ntmps155
 go_wp2
 go_loop [5] (fun i=>i=.int .i64 0) (fun _=>0)
 case atStart=>rfl
 case round =>
  subst hrel
  go_wp2
  go_ret
  exact ⟨rfl,rfl⟩
theorem eqInsS_any (a a2:Option Addr)(cap cap2 n:Nat)(f:Nat→Ins)(w:World)(hn:n≤1048576)(h:SlIns w a n f)(h2:SlIns w a2 n f) :
  Calls Tryz.prog 155 #[.slice a n cap,.slice a2 n cap2] w fun e w'=>e=.returned (.bool true)∧Below w.heap.size w w':=by
 by_cases hz:n=0
 ·subst hz
  exact (eqInsS_nil a a2 cap cap2 w).mono fun _ _ ⟨a,b⟩=>⟨a,by rw [b];exact Below.refl _ _⟩
 ·rcases h with h | ⟨b,off,rfl,hb,hf⟩
  ·exact absurd h hz
  ·rcases h2 with h | ⟨b2,off2,rfl,hb2,hf2⟩
   ·exact absurd h hz
   ·exact eqInsS_row b off cap b2 off2 cap2 n f w hn hb hf hb2 hf2
theorem szIns_any (op:Int)(s:ByteArray)(n:Int)(left:Int)(w:World)(hss:s.size≤maxLen)(l0:0≤left)(l1:left≤1048576) :
  Calls Tryz.prog 162 #[.agg #[.int .i64 op,.string s,.int .i64 n],.int .i64 left] w fun e w'=>∃ r:Int,e=.returned (.int .i64 r)∧-1≤r∧r≤left∧Below w.heap.size w w':=by
 unfold maxLen at hss
 go_enter Tryz.func162,Tryz.ntmps162
 go_wp2
 all_goals go_ret
 all_goals first
  | exact ⟨-1,rfl,by omega,by omega,(Below.refl _ _).alloc lr _⟩
  | exact ⟨_,rfl,by omega,by omega,(Below.refl _ _).alloc lr _⟩
theorem szInsS_big (a:Option Addr)(n cap:Nat)(left:Int)(w:World)(h0:0≤left)(h1:left≤1048576)(hn:(n:Int)≤9223372036854775807)(h:left<(n:Int)) :
  Calls Tryz.prog 150 #[.slice a n cap,.int .i64 left] w fun e w'=>e=.returned (.int .i64 (-1))∧w'=w:=by
 go_enter Tryz.func150,Tryz.ntmps150
 go_wp2
 go_ret
 exact ⟨rfl,rfl⟩
theorem szInsS_row (b off n cap:Nat)(f:Nat→Ins)(left:Int)(w:World)(h0:(n:Int)≤left)(h1:left≤1048576)(hb:b<w.heap.size)(hf:∀ i,i<n→AtIns w b off i (f i))(hs:∀ i,i<n→(f i).s.size≤maxLen) :
  Calls Tryz.prog 150 #[.slice (some ⟨b,off,none⟩) n cap,.int .i64 left] w fun e w'=>∃ r:Int,e=.returned (.int .i64 r)∧-1≤r∧r≤left∧Below w.heap.size w w':=by
 have HF:=hide hf
 have HS:=hide hs
 clear hf hs
 go_enter Tryz.func150,Tryz.ntmps150
 go_wp2
 go_loopw [1,5] (fun l i wr=>∃ k:Nat,∃ r:Int,k≤n∧0≤r∧r≤left∧i=.int .i64 k∧l=.int .i64 r∧Below w.heap.size w wr) (fun _ i _=>n - (intOf i).toNat)
 case atStart=>exact ⟨0,left - n,by omega,by omega,by omega,rfl,rfl,Below.refl _ _⟩
 case round =>
  obtain ⟨k,r,hk,hr0,hr1,rfl,rfl,hB⟩:=hrel
  by_cases hlt:k<n
  ·obtain ⟨c0,c1,c2⟩:=(HF.out k hlt).below hB hb
   go_wp2_with (go_at_call 162;refine (szIns_any _ _ _ _ _ (HS.out k hlt) (by omega) (by omega)).mono ?_;rintro e w' ⟨r',rfl,hr2,hr3,hB'⟩)
   ·go_ret
    exact ⟨-1,rfl,by omega,by omega,hB.trans (hB'.mono hB.size)⟩
   ·exact ⟨⟨k+1,r',by omega,by omega,by omega,by go_num,rfl,hB.trans (hB'.mono hB.size)⟩,by simp [intOf];omega⟩
  ·go_wp2
   go_ret
   exact ⟨r,rfl,by omega,by omega,hB⟩
theorem szInsS_nil (a:Option Addr)(cap:Nat)(left:Int)(w:World)(h0:0≤left)(h1:left≤1048576) :
  Calls Tryz.prog 150 #[.slice a 0 cap,.int .i64 left] w fun e w'=>e=.returned (.int .i64 left)∧w'=w:=by
 go_enter Tryz.func150,Tryz.ntmps150
 go_wp2
 go_loop [1,5] (fun l i=>l=.int .i64 left∧i=.int .i64 0) (fun _ _=>0)
 case atStart=>exact ⟨by simp,rfl⟩
 case round =>
  obtain ⟨rfl,rfl⟩:=hrel
  go_wp2
  go_ret
  exact ⟨rfl,rfl⟩
theorem szInsS_any (a:Option Addr)(n cap:Nat)(f:Nat→Ins)(left:Int)(w:World)(h0:0≤left)(h1:left≤1048576)(hn:(n:Int)≤9223372036854775807)(hv:SlIns w a n f)(hs:∀ i,i<n→(f i).s.size≤maxLen) :
  Calls Tryz.prog 150 #[.slice a n cap,.int .i64 left] w fun e w'=>∃ r:Int,e=.returned (.int .i64 r)∧-1≤r∧r≤left∧(0≤r→(n:Int)≤left)∧Below w.heap.size w w':=by
 rcases hv with rfl | ⟨b,off,rfl,hl,hc⟩
 ·exact (szInsS_nil a cap left w h0 h1).mono fun e w' ⟨a,b⟩=>⟨_,a,by omega,by omega,fun _=>by omega,by rw [b];exact Below.refl _ _⟩
 ·by_cases h:(n:Int)≤left
  ·exact (szInsS_row b off n cap f left w h h1 hl hc hs).mono fun e w' ⟨r,a,b,c,d⟩=>⟨r,a,b,c,fun _=>h,d⟩
  ·exact (szInsS_big _ n cap left w h0 h1 hn (by omega)).mono fun e w' ⟨a,b⟩=>⟨_,a,by omega,by omega,fun _=>by omega,by rw [b];exact Below.refl _ _⟩
theorem toIns_any (op:Int)(s:ByteArray)(n:Int)(w:World) :
  Calls Tryz.prog 164 #[.agg #[.int .i64 op,.string s,.int .i64 n]] w fun e w'=>e=.returned (.agg #[.int .i64 op,.string s,.int .i64 n])∧Below w.heap.size w w':=by
 go_enter Tryz.func164,Tryz.ntmps164
 go_wp2
 refine bodyPost_ret (v:=.agg #[.int .i64 op,.string s,.int .i64 n]) (by simp [results,Tryz.results164,go_sem]) rfl ⟨rfl,?_⟩
 exact (((Below.refl _ _).alloc lr _).alloc (by simp) _).alloc (by simp;omega) _
theorem toInsS_row (b off n cap:Nat)(f:Nat→Ins)(w:World)(hn:n≤1048576)(hb:b<w.heap.size)(hf:∀ i,i<n→AtIns w b off i (f i)) :
  Calls Tryz.prog 153 #[.slice (some ⟨b,off,none⟩) n cap] w fun e w'=>∃ g,e=.returned (.slice (some ⟨g,0,none⟩) n n)∧RowIns w' g 0 n f∧w.heap.size≤g∧Below w.heap.size w w':=by
 have HF:=hide hf
 clear hf
 have hmk:=mkIns n hn
 go_enter Tryz.func153,Tryz.ntmps153
 go_wp2
 clear hmk
 go_loopw [4] (fun i wr=>∃ k:Nat,k≤n∧i=.int .i64 k∧OwnIns wr w.heap.size n k f∧Below w.heap.size w wr) (fun i _=>n - (intOf i).toNat)
 case atStart=>exact ⟨0,by omega,rfl,ownIns_start w n f,(Below.refl _ _).alloc lr _⟩
 case round =>
  obtain ⟨k,hk,rfl,hO,hB⟩:=hrel
  have HO:=hide hO
  by_cases hlt:k<n
  ·obtain ⟨c0,c1,c2⟩:=(HF.out k hlt).below hB hb
   clear hO
   go_wp2_with fail
   refine (toIns_any _ _ _ _).mono ?_
   rintro e w1 ⟨rfl,hB1⟩
   have HO1:Hid (OwnIns w1 w.heap.size n k f):=HO.out.below hB1 (by obtain ⟨F,hr,_⟩:=HO.out;exact hr.lt)
   obtain ⟨F,hr,_⟩:=HO1.out
   have d0:=hr.cell (i:=k*3) (by omega)
   have z0:=hr.frozen (k*3)
   have d1:=hr.cell (i:=k*3+1) (by omega)
   have z1:=hr.frozen (k*3+1)
   have d2:=hr.cell (i:=k*3+2) (by omega)
   have z2:=hr.frozen (k*3+2)
   clear hr c0 c1 c2
   go_wp2
   exact ⟨⟨k+1,by omega,by go_num,HO1.out.step,(((hB.trans (hB1.mono hB.size)).setCell lr _).setCell lr _).setCell lr _⟩,by simp [intOf];omega⟩
  ·have e:k=n:=by omega
   subst e
   clear hO
   go_wp2
   go_ret
   exact ⟨_,rfl,HO.out.row,Nat.le_refl _,hB⟩
theorem toInsS_nil (a:Option Addr)(cap:Nat)(f:Nat→Ins)(w:World) :
  Calls Tryz.prog 153 #[.slice a 0 cap] w fun e w'=>∃ g,e=.returned (.slice (some ⟨g,0,none⟩) 0 0)∧RowIns w' g 0 0 f∧w.heap.size≤g∧Below w.heap.size w w':=by
 have hmk:∀ w:World,(Instr.makeSlice 51 (.int .i64 0) (.int .i64 0)).run Tryz.prog w=.ok (.slice (some ⟨w.heap.size,0,none⟩) 0 0) (w.alloc (.cells (zerosIns 0) 162)):=fun w=>mkIns 0 (by omega) w
 go_enter Tryz.func153,Tryz.ntmps153
 go_wp2
 clear hmk
 go_loop [4] (fun i=>i=.int .i64 0) (fun _=>0)
 case atStart=>rfl
 case round =>
  subst hrel
  go_wp2
  go_ret
  exact ⟨_,rfl,(ownIns_start w 0 f).row,Nat.le_refl _,(Below.refl _ _).alloc lr _⟩
theorem toInsS_any (a:Option Addr)(n cap:Nat)(f:Nat→Ins)(w:World)(hn:n≤1048576)(hv:SlIns w a n f) :
  Calls Tryz.prog 153 #[.slice a n cap] w fun e w'=>∃ g,e=.returned (.slice (some ⟨g,0,none⟩) n n)∧RowIns w' g 0 n f∧w.heap.size≤g∧Below w.heap.size w w':=by
 rcases hv with rfl | ⟨b,off,rfl,hl,hc⟩
 ·exact toInsS_nil a cap f w
 ·exact toInsS_row b off n cap f w hn hl hc
theorem eqProgram_any (a a2:Option Addr)(cap cap2 n:Nat)(f:Nat→Ins)(w:World)(hn:n≤1048576)(h:SlIns w a n f)(h2:SlIns w a2 n f) :
  Calls Tryz.prog 138 #[.agg #[.slice a n cap],.agg #[.slice a2 n cap2]] w fun e w'=>e=.returned (.bool true)∧Below w.heap.size w w':=by
 have HF:=hide h
 have HF2:=hide h2
 clear h h2
 go_enter Tryz.func138,Tryz.ntmps138
 go_wp2_with fail
 have hA:=hide (((Below.refl w.heap.size w).alloc lr (.cells #[.slice a n cap] 53)).alloc (by simp) (.cells #[.slice a2 n cap2] 53))
 refine (eqInsS_any a a2 cap cap2 n f _ hn (HF.out.below hA.out lr) (HF2.out.below hA.out lr)).mono ?_
 rintro e w' ⟨rfl,hB⟩
 go_wp2
 go_ret
 exact ⟨rfl,hA.out.trans (hB.mono (by simp;omega))⟩
theorem szProgram_any (a:Option Addr)(n cap:Nat)(f:Nat→Ins)(left:Int)(w:World)(h0:0≤left)(h1:left≤1048576)(hn:(n:Int)≤9223372036854775807)(hv:SlIns w a n f)(hs:∀ i,i<n→(f i).s.size≤maxLen) :
  Calls Tryz.prog 133 #[.agg #[.slice a n cap],.int .i64 left] w fun e w'=>∃ r:Int,e=.returned (.int .i64 r)∧-1≤r∧r≤left∧(0≤r→(n:Int)≤left)∧Below w.heap.size w w':=by
 have HV:=hide hv
 have HS:=hide hs
 clear hv hs
 go_enter Tryz.func133,Tryz.ntmps133
 go_wp2_with fail
 refine (szInsS_any a n cap f left _ h0 h1 hn (HV.out.below ((Below.refl _ _).alloc lr _) lr) HS.out).mono ?_
 rintro e w' ⟨r,rfl,hr1,hr2,hr3,hB⟩
 go_wp2
 all_goals go_ret
 ·exact ⟨-1,rfl,by omega,by omega,fun _=>by omega,((Below.refl _ _).alloc lr _).trans (hB.mono (by simp))⟩
 ·exact ⟨r,rfl,hr1,hr2,hr3,((Below.refl _ _).alloc lr _).trans (hB.mono (by simp))⟩
theorem toProgram_any (a:Option Addr)(n cap:Nat)(f:Nat→Ins)(w:World)(hn:n≤1048576)(hv:SlIns w a n f) :
  Calls Tryz.prog 135 #[.agg #[.slice a n cap]] w fun e w'=>∃ g,e=.returned (.agg #[.slice (some ⟨g,0,none⟩) n n])∧RowIns w' g 0 n f∧w.heap.size≤g∧Below w.heap.size w w':=by
 have HV:=hide hv
 clear hv
 go_enter Tryz.func135,Tryz.ntmps135
 go_wp2_with fail
 refine (toInsS_any a n cap f _ hn (HV.out.below ((((Below.refl _ _).alloc lr _).alloc (by simp) _).alloc (by simp;omega) _) lr)).mono ?_
 rintro e w' ⟨g,rfl,hv',hg,hB⟩
 have HV':=hide hv'
 have HB:=hide hB
 obtain ⟨hc,hz⟩:=bcell hB
 clear hv' hB
 simp at hg
 go_wp2
 refine bodyPost_ret (v:=.agg #[.slice (some ⟨g,0,none⟩) n n]) (by simp [results,Tryz.results135,go_sem,hc]) rfl ⟨g,rfl,(HV'.out.setOther _ (by simp;omega) _).setOther _ (by simp;omega) _,by omega,?_⟩
 exact ((((((Below.refl _ _).alloc lr _).alloc (by simp) _).alloc (by simp;omega) _).trans (HB.out.mono (by simp;omega))).setCell (by simp;omega) _).setCell (by simp) _
structure Target where
 name:ByteArray
 actN:Nat
 act:Nat→Ins
def SizedTarget (x:Target):Prop:=x.name.size≤maxLen∧((x.actN:Int)≤9223372036854775807∧∀ j,j<x.actN→(x.act j).s.size≤maxLen)
def FitsTarget (x:Target):Prop:=x.actN≤1048576
def AtTarget (w:World)(b off i:Nat)(x:Target):Prop :=
 w.cell? ⟨b,off+i*2,none⟩=some (.string x.name)∧(∃ a cap,w.cell? ⟨b,off+i*2+1,none⟩=some (.slice a x.actN cap)∧SlIns w a x.actN x.act)
theorem AtTarget.below {w w':World}{B b off i:Nat}{x:Target}(h:AtTarget w b off i x)(hb:Below B w w')(hB:w.heap.size≤B)(hl:b<w.heap.size):AtTarget w' b off i x:=by
 obtain ⟨p0,⟨a0,cap0,s0,r0⟩⟩:=h
 refine ⟨(hb.cell (p:=⟨b,_,none⟩) (Nat.lt_of_lt_of_le hl hB)).trans p0,⟨a0,cap0,(hb.cell (p:=⟨b,_,none⟩) (Nat.lt_of_lt_of_le hl hB)).trans s0,r0.below hb hB⟩⟩
def RowTarget (w:World)(b off n:Nat)(f:Nat→Target):Prop:=b<w.heap.size∧∀ i,i<n→AtTarget w b off i (f i)
theorem RowTarget.below {w w':World}{B b off n:Nat}{f:Nat→Target}(h:RowTarget w b off n f)(hb:Below B w w')(hB:w.heap.size≤B):RowTarget w' b off n f :=
 ⟨Nat.lt_of_lt_of_le h.1 hb.size,fun i hi=>(h.2 i hi).below hb hB h.1⟩
def SlTarget (w:World)(a:Option Addr)(n:Nat)(f:Nat→Target):Prop:=n=0∨∃ b off,a=some ⟨b,off,none⟩∧RowTarget w b off n f
theorem SlTarget.below {w w':World}{B:Nat}{a:Option Addr}{n:Nat}{f:Nat→Target}(h:SlTarget w a n f)(hb:Below B w w')(hB:w.heap.size≤B):SlTarget w' a n f:=by
 rcases h with h | ⟨b,off,hv,hr⟩
 ·exact .inl h
 ·exact .inr ⟨b,off,hv,hr.below hb hB⟩
theorem RowTarget.sl {w:World}{b off n:Nat}{f:Nat→Target}(h:RowTarget w b off n f):SlTarget w (some ⟨b,off,none⟩) n f:=.inr ⟨b,off,rfl,h⟩
theorem szTarget_any (x:Target)(a0:Option Addr)(cap0:Nat)(left:Int)(w:World)(hz:SizedTarget x)(hv0:SlIns w a0 x.actN x.act)(l0:0≤left)(l1:left≤1048576) :
  Calls Tryz.prog 89 #[.agg #[.string x.name,.slice a0 x.actN cap0],.int .i64 left] w fun e w'=>∃ r:Int,e=.returned (.int .i64 r)∧-1≤r∧r≤left∧(0≤r→FitsTarget x)∧Below w.heap.size w w':=by
 have V0:=hide hv0
 clear hv0
 have zname:=hz.1
 unfold maxLen at zname
 have Sz:=hide hz
 clear hz
 have B0:=hide ((Below.refl w.heap.size w).alloc lr (.cells #[.string x.name,.slice a0 x.actN cap0] 130))
 go_enter Tryz.func89,Tryz.ntmps89
 go_wp2_with (first | (go_at_call 133;refine (szProgram_any a0 x.actN cap0 x.act _ _ ?_ ?_ (Sz.out.2).1 ?_ (Sz.out.2).2).mono ?_;omega;omega;exact V0.out.below B0.out lr ;rintro e w1 ⟨r0,rfl,l0,m0,n0,hB0⟩;have B1:=hide (B0.out.trans (hB0.mono B0.out.size));have bc0:=(bcell hB0).1;clear hB0))
 all_goals go_ret
 all_goals first
  | exact ⟨-1,rfl,by omega,by omega,fun _=>by omega,by first | exact B1.out | exact B0.out⟩
  | exact ⟨_,rfl,by omega,by omega,fun _=>(show (_:Nat)≤1048576 from by have:=n0 (by omega);omega),B1.out⟩
theorem szTargetS_big (a:Option Addr)(n cap:Nat)(left:Int)(w:World)(h0:0≤left)(h1:left≤1048576)(hn:(n:Int)≤9223372036854775807)(h:left<(n:Int)) :
  Calls Tryz.prog 32 #[.slice a n cap,.int .i64 left] w fun e w'=>e=.returned (.int .i64 (-1))∧w'=w:=by
 go_enter Tryz.func32,Tryz.ntmps32
 go_wp2
 go_ret
 exact ⟨rfl,rfl⟩
theorem szTargetS_row (b off n cap:Nat)(f:Nat→Target)(left:Int)(w:World)(h0:(n:Int)≤left)(h1:left≤1048576)(hf:RowTarget w b off n f)(hs:∀ i,i<n→SizedTarget (f i)) :
  Calls Tryz.prog 32 #[.slice (some ⟨b,off,none⟩) n cap,.int .i64 left] w fun e w'=>∃ r:Int,e=.returned (.int .i64 r)∧-1≤r∧r≤left∧(0≤r→∀ i,i<n→FitsTarget (f i))∧Below w.heap.size w w':=by
 have HF:=hide hf
 have HS:=hide hs
 clear hf hs
 go_enter Tryz.func32,Tryz.ntmps32
 go_wp2
 go_loopw [1,5] (fun l i wr=>∃ k:Nat,∃ r:Int,k≤n∧0≤r∧r≤left∧i=.int .i64 k∧l=.int .i64 r∧Hid (∀ i,i<k→FitsTarget (f i))∧Below w.heap.size w wr) (fun _ i _=>n - (intOf i).toNat)
 case atStart=>exact ⟨0,left - n,by omega,by omega,by omega,rfl,rfl,fun i hi=>absurd hi (Nat.not_lt_zero _),Below.refl _ _⟩
 case round =>
  obtain ⟨k,r,hk,hr0,hr1,rfl,rfl,hfit,hB⟩:=hrel
  have HB:=hide hB
  have hsz:w.heap.size≤wr.heap.size:=hB.size
  clear hB
  by_cases hlt:k<n
  ·obtain ⟨p0,⟨a0,cap0,s0,r0⟩⟩:=(HF.out.2 k hlt).below HB.out lr HF.out.1
   have HR:=hide (show SlIns wr a0 (f k).actN (f k).act from r0)
   clear r0
   go_wp2_with fail
   refine (szTarget_any (f k) a0 cap0 _ _ (HS.out k hlt) HR.out (by omega) (by omega)).mono ?_
   rintro e w' ⟨r',rfl,hr2,hr3,hr4,hB'⟩
   have HR4:=hide hr4
   have HB':=hide (HB.out.trans (hB'.mono hsz))
   clear hr4 hB'
   go_wp2
   ·go_ret
    exact ⟨-1,rfl,by omega,by omega,fun _=>by omega,HB'.out⟩
   ·exact ⟨⟨k+1,r',by omega,by omega,by omega,by go_num,rfl,fun i hi=>by
     by_cases e:i=k
     ·subst e;exact HR4.out (by omega)
     ·exact hfit i (by omega),HB'.out⟩,by simp [intOf];omega⟩
  ·have e:k=n:=by omega
   subst e
   go_wp2
   go_ret
   exact ⟨r,rfl,by omega,by omega,fun _=>hfit,HB.out⟩
theorem szTargetS_nil (a:Option Addr)(cap:Nat)(left:Int)(w:World)(h0:0≤left)(h1:left≤1048576) :
  Calls Tryz.prog 32 #[.slice a 0 cap,.int .i64 left] w fun e w'=>e=.returned (.int .i64 left)∧w'=w:=by
 go_enter Tryz.func32,Tryz.ntmps32
 go_wp2
 go_loop [1,5] (fun l i=>l=.int .i64 left∧i=.int .i64 0) (fun _ _=>0)
 case atStart=>exact ⟨by simp,rfl⟩
 case round =>
  obtain ⟨rfl,rfl⟩:=hrel
  go_wp2
  go_ret
  exact ⟨rfl,rfl⟩
theorem szTargetS_any (a:Option Addr)(n cap:Nat)(f:Nat→Target)(left:Int)(w:World)(h0:0≤left)(h1:left≤1048576)(hn:(n:Int)≤9223372036854775807)(hv:SlTarget w a n f)(hs:∀ i,i<n→SizedTarget (f i)) :
  Calls Tryz.prog 32 #[.slice a n cap,.int .i64 left] w fun e w'=>∃ r:Int,e=.returned (.int .i64 r)∧-1≤r∧r≤left∧(0≤r→(n:Int)≤left∧∀ i,i<n→FitsTarget (f i))∧Below w.heap.size w w':=by
 rcases hv with rfl | ⟨b,off,rfl,hr⟩
 ·exact (szTargetS_nil a cap left w h0 h1).mono fun e w' ⟨a,b⟩=>⟨_,a,by omega,by omega,fun _=>⟨by omega,fun i hi=>absurd hi (Nat.not_lt_zero _)⟩,by rw [b];exact Below.refl _ _⟩
 ·by_cases h:(n:Int)≤left
  ·exact (szTargetS_row b off n cap f left w h h1 hr hs).mono fun e w' ⟨r,a,b,c,d,e⟩=>⟨r,a,b,c,fun g=>⟨h,d g⟩,e⟩
  ·exact (szTargetS_big _ n cap left w h0 h1 hn (by omega)).mono fun e w' ⟨a,b⟩=>⟨_,a,by omega,by omega,fun _=>by omega,by rw [b];exact Below.refl _ _⟩
theorem toTarget_any (x:Target)(a0:Option Addr)(cap0:Nat)(w:World)(hfit:FitsTarget x)(hv0:SlIns w a0 x.actN x.act) :
  Calls Tryz.prog 92 #[.agg #[.string x.name,.slice a0 x.actN cap0]] w fun e w'=>∃ g0,e=.returned (.agg #[.string x.name,.slice (some ⟨g0,0,none⟩) x.actN x.actN])∧RowIns w' g0 0 x.actN x.act∧w.heap.size≤g0∧Below w.heap.size w w':=by
 have V0:=hide hv0
 clear hv0
 have hfit:=hide hfit
 have A0:Hid (Below w.heap.size w (((w.alloc (.cells #[.string x.name,.slice a0 x.actN cap0] 130)).alloc (.cells #[.string ⟨#[]⟩,.slice none 0 0] 110)).alloc (.cells #[.string x.name,.slice none 0 0] 110))):=(((Below.refl _ _).alloc lr _).alloc (by simp) _).alloc (by first | (simp;omega) | simp) _
 go_enter Tryz.func92,Tryz.ntmps92
 go_wp2_with fail
 refine (toProgram_any a0 x.actN cap0 x.act _ hfit.out (V0.out.below A0.out lr)).mono ?_
 rintro e w1 ⟨g0,rfl,hR0,hg0,hB1⟩
 have R0:=hide hR0
 obtain ⟨hc1,hz1⟩:=bcell hB1
 have B1:=hide (A0.out.trans (hB1.mono A0.out.size))
 have hs1:w.heap.size+1+1<w1.heap.size:=by have:=hB1.size;simp at this;omega
 have hu1:w.heap.size+1<w1.heap.size:=by omega
 have ht1:w.heap.size<w1.heap.size:=by omega
 have D1:=hide hB1
 clear hR0 hB1
 simp at hg0
 have q0:w1.cell? ⟨w.heap.size+1,0,none⟩=some (.string ⟨#[]⟩):=by
  rw [D1.out.cell (p:=⟨w.heap.size+1,0,none⟩) (by first | (simp;omega) | simp)]
  simp [go_sem]
 have q1:w1.cell? ⟨w.heap.size+1,1,none⟩=some (.slice none 0 0):=by
  rw [D1.out.cell (p:=⟨w.heap.size+1,1,none⟩) (by first | (simp;omega) | simp)]
  simp [go_sem]
 go_wp2
 exact bodyPost_ret (v:=.agg #[.string x.name,.slice (some ⟨g0,0,none⟩) x.actN x.actN]) (by simp [results,Tryz.results92,go_sem,q0,q1]) rfl ⟨g0,rfl,(((R0.out).setOther _ (by first | (simp;omega) | simp) _).setOther _ (by first | (simp;omega) | simp) _).setOther _ (by first | (simp;omega) | simp) _,by omega,(((B1.out).setCell (by first | (simp;omega) | simp) _).setCell (by first | (simp;omega) | simp) _).setCell (by first | (simp;omega) | simp) _⟩
theorem infoTarget:(Tryz.prog.info? 110).map (fun i=>(i.zero,i.size,i.bytes))=some (some (.agg #[.string ⟨#[]⟩,.slice none 0 0]),2,40):=by kernel_rfl
def zerosTarget (n:Nat):Array Value:=madeCells (Value.agg #[.string ⟨#[]⟩,.slice none 0 0]).cells (n*2)
theorem mkTarget (n:Nat)(hn:n≤1048576)(w:World):(Instr.makeSlice 32 (.int .i64 (n:Int)) (.int .i64 (n:Int))).run Tryz.prog w=.ok (.slice (some ⟨w.heap.size,0,none⟩) n n) (w.alloc (.cells (zerosTarget n) 110)):=by
 obtain ⟨i,hi,hz⟩:=Option.map_eq_some_iff.1 infoTarget
 simp only [Prod.mk.injEq] at hz
 obtain ⟨h1,h2,h3⟩:=hz
 have h:=run_make (P:=Tryz.prog) w 32 110 i _ Tryz.underlying32 hi h1 .i64 .i64 n n (by omega) (Int.le_refl _) (by rw [h3];omega) (by omega)
 rw [h2] at h
 simpa [zerosTarget] using h
def OwnTarget (w:World)(g n k:Nat)(f:Nat→Target):Prop :=
 ∃ (F:Nat→Value) (G0:Nat→Nat),w.rowIs g 110 (n*2) F∧∀ i,i<k→F (i*2)=.string (f i).name∧(F (i*2+1)=.slice (some ⟨G0 i,0,none⟩) (f i).actN (f i).actN∧RowIns w (G0 i) 0 (f i).actN (f i).act∧g<G0 i)
theorem OwnTarget.lt {w:World}{g n k:Nat}{f:Nat→Target}(h:OwnTarget w g n k f):g<w.heap.size:=by
 obtain ⟨F,G0,hr,_⟩:=h
 exact hr.lt
theorem ownTarget_start (w:World)(n:Nat)(f:Nat→Target):OwnTarget (w.alloc (.cells (zerosTarget n) 110)) w.heap.size n 0 f:=by
 have hz:(zerosTarget n).size=n*2:=size_madeCells _ _
 have h:=World.rowIs_alloc w (zerosTarget n) 110 (fun i=>(zerosTarget n)[i]?.getD undef) (fun i hi=>by rw [Array.getElem?_eq_getElem hi];rfl)
 rw [hz] at h
 exact ⟨_,fun _=>0,h,fun i hi=>absurd hi (Nat.not_lt_zero _)⟩
theorem OwnTarget.step {w:World}{g n k g0:Nat}{f:Nat→Target}(h:OwnTarget w g n k f)(R0:RowIns w g0 0 (f k).actN (f k).act)(hg0:g<g0) :
  OwnTarget ((w.setCell ⟨g,k*2,none⟩ (.string (f k).name)).setCell ⟨g,k*2+1,none⟩ (.slice (some ⟨g0,0,none⟩) (f k).actN (f k).actN)) g n (k+1) f:=by
 obtain ⟨F,G0,hr,hF⟩:=h
 refine ⟨_,fun i=>if i=k then g0 else G0 i,((hr.set _ _).set _ _),fun i hi=>?_⟩
 by_cases e:i=k
 ·subst e
  exact ⟨by simp,⟨by simp,by dsimp only;rw [if_pos rfl];exact ((R0).setOther _ (by first | (simp;omega) | simp) _).setOther _ (by first | (simp;omega) | simp) _,by dsimp only;rw [if_pos rfl];exact hg0⟩⟩
 ·obtain ⟨p0,⟨s0,r0,u0⟩⟩:=hF i (by omega)
  refine ⟨?_,?_⟩
  ·show (if _ then _ else if _ then _ else _)=_
   rw [if_neg (by omega),if_neg (by omega),p0]
  ·dsimp only
   rw [if_neg e]
   refine ⟨?_,((r0).setOther _ (by first | (simp;omega) | simp) _).setOther _ (by first | (simp;omega) | simp) _,u0⟩
   show (if _ then _ else if _ then _ else _)=_
   rw [if_neg (by omega),if_neg (by omega),s0]
theorem OwnTarget.below {w w':World}{g n k:Nat}{f:Nat→Target}{B:Nat}(h:OwnTarget w g n k f)(hb:Below B w w')(hB:w.heap.size≤B):OwnTarget w' g n k f:=by
 have hl:=h.lt
 obtain ⟨F,G0,hr,hF⟩:=h
 refine ⟨F,G0,hr.of_block (hb.block g (Nat.lt_of_lt_of_le hl hB)),fun i hi=>?_⟩
 obtain ⟨p0,⟨s0,r0,u0⟩⟩:=hF i hi
 exact ⟨p0,⟨s0,r0.below hb hB,u0⟩⟩
theorem OwnTarget.setOther {w:World}{g n k:Nat}{f:Nat→Target}(h:OwnTarget w g n k f)(p:Addr)(hp:p.block<g)(v:Value):OwnTarget (w.setCell p v) g n k f:=by
 obtain ⟨F,G0,hr,hF⟩:=h
 refine ⟨F,G0,hr.setOther (by omega) v,fun i hi=>?_⟩
 obtain ⟨p0,⟨s0,r0,u0⟩⟩:=hF i hi
 exact ⟨p0,⟨s0,r0.setOther p (by omega) v,u0⟩⟩
theorem OwnTarget.row {w:World}{g n:Nat}{f:Nat→Target}(h:OwnTarget w g n n f):RowTarget w g 0 n f:=by
 obtain ⟨F,G0,hr,hF⟩:=h
 refine ⟨hr.lt,fun i hi=>?_⟩
 obtain ⟨p0,⟨s0,r0,u0⟩⟩:=hF i hi
 refine ⟨?_,?_⟩
 ·rw [Nat.zero_add,hr.cell (by omega),p0]
 ·exact ⟨_,_,by rw [Nat.zero_add,hr.cell (by omega),s0],r0.sl⟩
theorem toTargetS_row (b off n cap:Nat)(f:Nat→Target)(w:World)(hn:n≤1048576)(hf:RowTarget w b off n f)(hm:∀ i,i<n→FitsTarget (f i)) :
  Calls Tryz.prog 38 #[.slice (some ⟨b,off,none⟩) n cap] w fun e w'=>∃ g,e=.returned (.slice (some ⟨g,0,none⟩) n n)∧OwnTarget w' g n n f∧w.heap.size≤g∧Below w.heap.size w w':=by
 have HF:=hide hf
 have HM:=hide hm
 clear hf hm
 have hmk:=mkTarget n hn
 go_enter Tryz.func38,Tryz.ntmps38
 go_wp2
 clear hmk
 go_loopw [4] (fun i wr=>∃ k:Nat,k≤n∧i=.int .i64 k∧OwnTarget wr w.heap.size n k f∧Below w.heap.size w wr) (fun i _=>n - (intOf i).toNat)
 case atStart=>exact ⟨0,by omega,rfl,ownTarget_start w n f,(Below.refl _ _).alloc lr _⟩
 case round =>
  obtain ⟨k,hk,rfl,hO,hB⟩:=hrel
  have HO:=hide hO
  have HB:=hide hB
  have hsz:w.heap.size≤wr.heap.size:=hB.size
  have hlo:w.heap.size<wr.heap.size:=hO.lt
  clear hB
  by_cases hlt:k<n
  ·obtain ⟨p0,⟨a0,cap0,s0,r0⟩⟩:=(HF.out.2 k hlt).below HB.out lr HF.out.1
   have HR:=hide (show SlIns wr a0 (f k).actN (f k).act from r0)
   clear hO r0
   go_wp2_with fail
   refine (toTarget_any (f k) a0 cap0 _ (HM.out k hlt) HR.out).mono ?_
   rintro e w1 ⟨g0,rfl,hR0,hg0,hB1⟩
   have HO1:=hide (HO.out.below hB1 lr)
   have R0:=hide hR0
   have HB1:=hide (HB.out.trans (hB1.mono hsz))
   clear hB1 hR0
   obtain ⟨F,G0,hr,_⟩:=HO1.out
   have d0:=hr.cell (i:=k*2) (by omega)
   have z0:=hr.frozen (k*2)
   have d1:=hr.cell (i:=k*2+1) (by omega)
   have z1:=hr.frozen (k*2+1)
   clear hr p0 s0
   go_wp2
   exact ⟨⟨k+1,by omega,by go_num,HO1.out.step R0.out (by omega),((HB1.out).setCell lr _).setCell lr _⟩,by simp [intOf];omega⟩
  ·have e:k=n:=by omega
   subst e
   clear hO
   go_wp2
   go_ret
   exact ⟨_,rfl,HO.out,Nat.le_refl _,HB.out⟩
theorem toTargetS_nil (a:Option Addr)(cap:Nat)(f:Nat→Target)(w:World) :
  Calls Tryz.prog 38 #[.slice a 0 cap] w fun e w'=>∃ g,e=.returned (.slice (some ⟨g,0,none⟩) 0 0)∧OwnTarget w' g 0 0 f∧w.heap.size≤g∧Below w.heap.size w w':=by
 have hmk:∀ w:World,(Instr.makeSlice 32 (.int .i64 0) (.int .i64 0)).run Tryz.prog w=.ok (.slice (some ⟨w.heap.size,0,none⟩) 0 0) (w.alloc (.cells (zerosTarget 0) 110)):=fun w=>mkTarget 0 (by omega) w
 go_enter Tryz.func38,Tryz.ntmps38
 go_wp2
 clear hmk
 go_loop [4] (fun i=>i=.int .i64 0) (fun _=>0)
 case atStart=>rfl
 case round =>
  subst hrel
  go_wp2
  go_ret
  exact ⟨_,rfl,ownTarget_start w 0 f,Nat.le_refl _,(Below.refl _ _).alloc lr _⟩
theorem toTargetS_any (a:Option Addr)(n cap:Nat)(f:Nat→Target)(w:World)(hn:n≤1048576)(hv:SlTarget w a n f)(hm:∀ i,i<n→FitsTarget (f i)) :
  Calls Tryz.prog 38 #[.slice a n cap] w fun e w'=>∃ g,e=.returned (.slice (some ⟨g,0,none⟩) n n)∧OwnTarget w' g n n f∧w.heap.size≤g∧Below w.heap.size w w':=by
 rcases hv with rfl | ⟨b,off,rfl,hr⟩
 ·exact toTargetS_nil a cap f w
 ·exact toTargetS_row b off n cap f w hn hr hm
theorem eqTarget_any (x:Target)(a0:Option Addr)(cap0:Nat)(b0:Option Addr)(dap0:Nat)(w:World)(hfit:FitsTarget x)(hv0:SlIns w a0 x.actN x.act)(hu0:SlIns w b0 x.actN x.act) :
  Calls Tryz.prog 98 #[.agg #[.string x.name,.slice a0 x.actN cap0],.agg #[.string x.name,.slice b0 x.actN dap0]] w fun e w'=>e=.returned (.bool true)∧Below w.heap.size w w':=by
 have V0:=hide hv0
 clear hv0
 have U0:=hide hu0
 clear hu0
 have hfit:=hide hfit
 have B0:Hid (Below w.heap.size w ((w.alloc (.cells #[.string x.name,.slice a0 x.actN cap0] 110)).alloc (.cells #[.string x.name,.slice b0 x.actN dap0] 110))):=((Below.refl _ _).alloc lr _).alloc (by simp) _
 go_enter Tryz.func98,Tryz.ntmps98
 go_wp2_with fail
 refine (eqProgram_any a0 b0 cap0 dap0 x.actN x.act _ hfit.out (V0.out.below B0.out lr) (U0.out.below B0.out lr)).mono ?_
 rintro e w1 ⟨rfl,hB1⟩
 have bc1:=(bcell hB1).1
 have B1:=hide (B0.out.trans (hB1.mono B0.out.size))
 have hs1:w.heap.size+1<w1.heap.size:=by have:=hB1.size;first | omega | (simp at this;omega)
 have ht1:w.heap.size<w1.heap.size:=by omega
 clear hB1
 go_wp2
 go_ret
 exact ⟨rfl,B1.out⟩
theorem eqTargetS_row (b off cap b2 off2 cap2 n:Nat)(f:Nat→Target)(w:World)(hn:n≤1048576)(hf:RowTarget w b off n f)(hf2:RowTarget w b2 off2 n f)(hm:∀ i,i<n→FitsTarget (f i)) :
  Calls Tryz.prog 42 #[.slice (some ⟨b,off,none⟩) n cap,.slice (some ⟨b2,off2,none⟩) n cap2] w fun e w'=>e=.returned (.bool true)∧Below w.heap.size w w':=by
 have HF:=hide hf
 have HF2:=hide hf2
 have HM:=hide hm
 clear hf hf2 hm
 go_enter Tryz.func42,Tryz.ntmps42
 go_wp2
 go_loopw [5] (fun i wr=>∃ k:Nat,k≤n∧i=.int .i64 k∧Below w.heap.size w wr) (fun i _=>n - (intOf i).toNat)
 case atStart=>exact ⟨0,by omega,rfl,Below.refl _ _⟩
 case round =>
  obtain ⟨k,hk,rfl,hB⟩:=hrel
  have HB:=hide hB
  have hsz:w.heap.size≤wr.heap.size:=hB.size
  clear hB
  by_cases hlt:k<n
  ·obtain ⟨p0,⟨a0,cap0,s0,r0⟩⟩:=(HF.out.2 k hlt).below HB.out lr HF.out.1
   obtain ⟨q0,⟨b0,dap0,t0,v0⟩⟩:=(HF2.out.2 k hlt).below HB.out lr HF2.out.1
   have HR:=hide (show SlIns wr a0 (f k).actN (f k).act from r0)
   have HR2:=hide (show SlIns wr b0 (f k).actN (f k).act from v0)
   clear r0 v0
   go_wp2_with fail
   go_region_with (go_at_call 98;refine (eqTarget_any (f k) a0 cap0 b0 dap0 _ (HM.out k hlt) ?_ ?_).mono ?_;exact HR.out;exact HR2.out;rintro e w' ⟨rfl,hB'⟩)
   all_goals
    go_wp2
    exact ⟨⟨k+1,by omega,by go_num,Below.trans (by repeat (first | exact HB.out | apply Below.drew)) (hB'.mono hsz)⟩,by simp [intOf];omega⟩
  ·have e:k=n:=by omega
   subst e
   go_wp2
   go_ret
   exact ⟨rfl,HB.out⟩
theorem eqTargetS_nil (a a2:Option Addr)(cap cap2:Nat)(w:World) :
  Calls Tryz.prog 42 #[.slice a 0 cap,.slice a2 0 cap2] w fun e w'=>e=.returned (.bool true)∧w'=w:=by
 go_enter Tryz.func42,Tryz.ntmps42
 go_wp2
 go_loop [5] (fun i=>i=.int .i64 0) (fun _=>0)
 case atStart=>rfl
 case round =>
  subst hrel
  go_wp2
  go_ret
  exact ⟨rfl,rfl⟩
theorem eqTargetS_any (a a2:Option Addr)(cap cap2 n:Nat)(f:Nat→Target)(w:World)(hn:n≤1048576)(h:SlTarget w a n f)(h2:SlTarget w a2 n f)(hm:∀ i,i<n→FitsTarget (f i)) :
  Calls Tryz.prog 42 #[.slice a n cap,.slice a2 n cap2] w fun e w'=>e=.returned (.bool true)∧Below w.heap.size w w':=by
 by_cases hz:n=0
 ·subst hz
  exact (eqTargetS_nil a a2 cap cap2 w).mono fun _ _ ⟨a,b⟩=>⟨a,by rw [b];exact Below.refl _ _⟩
 ·rcases h with h | ⟨b,off,rfl,hr⟩
  ·exact absurd h hz
  ·rcases h2 with h | ⟨b2,off2,rfl,hr2⟩
   ·exact absurd h hz
   ·exact eqTargetS_row b off cap b2 off2 cap2 n f w hn hr hr2 hm
theorem szSpace_any (a0:Option Addr)(n0 c0:Nat)(f0:Nat→Source)(a1:Option Addr)(n1 c1:Nat)(f1:Nat→Target)(left:Int)(w:World)(h0:0≤left)(h1:left≤1048576)(hn0:(n0:Int)≤9223372036854775807)(hn1:(n1:Int)≤9223372036854775807)
  (hv0:SlSource w a0 n0 f0) (hs0:∀ i,i<n0→(f0 i).name.size≤maxLen∧(f0 i).text.size≤maxLen) (hv1:SlTarget w a1 n1 f1) (hs1:∀ i,i<n1→SizedTarget (f1 i)) :
  Calls Tryz.prog 6 #[.agg #[.slice a0 n0 c0,.slice a1 n1 c1],.int .i64 left] w fun e w'=>∃ r:Int,e=.returned (.int .i64 r)∧-1≤r∧r≤left∧(0≤r→(n0:Int)≤left∧(n1:Int)≤left∧∀ i,i<n1→FitsTarget (f1 i))∧Below w.heap.size w w':=by
 have HV0:=hide hv0
 have HV1:=hide hv1
 have HS0:=hide hs0
 have HS1:=hide hs1
 clear hv0 hv1 hs0 hs1
 have B0:=hide ((Below.refl w.heap.size w).alloc lr (.cells #[.slice a0 n0 c0,.slice a1 n1 c1] 25))
 go_enter Tryz.func6,Tryz.ntmps6
 go_wp2_with fail
 refine (szSourceS_any a0 n0 c0 f0 left _ h0 h1 hn0 (HV0.out.below B0.out lr) HS0.out).mono ?_
 rintro e w1 ⟨r,rfl,hr1,hr2,hr3,hB⟩
 have c1':w1.cell? ⟨w.heap.size,1,none⟩=some (.slice a1 n1 c1):=(hB.cell (p:=⟨w.heap.size,1,none⟩) (by simp)).trans (by simp)
 have B1:=hide (B0.out.trans (hB.mono (by simp)))
 clear hB B0
 by_cases hr:r<0
 ·clear hr3
  go_wp2
  go_ret
  exact ⟨-1,rfl,by omega,by omega,fun _=>by omega,B1.out⟩
 have hq:=hr3 (by omega)
 clear hr3
 go_wp2_with fail
 refine (szTargetS_any a1 n1 c1 f1 r _ (by omega) (by omega) hn1 (HV1.out.below B1.out lr) HS1.out).mono ?_
 rintro e w2 ⟨q,rfl,hq1,hq2,hq3,hB⟩
 have B2:=hide (B1.out.trans (hB.mono B1.out.size))
 have HQ:=hide hq3
 clear hB hq3
 go_wp2
 all_goals go_ret
 ·exact ⟨-1,rfl,by omega,by omega,fun _=>by omega,B2.out⟩
 ·exact ⟨q,rfl,hq1,by omega,fun h=>⟨hq,by have:=(HQ.out h).1;omega,(HQ.out h).2⟩,B2.out⟩
theorem toSpace_any (a0:Option Addr)(n0 c0:Nat)(f0:Nat→Source)(a1:Option Addr)(n1 c1:Nat)(f1:Nat→Target)(w:World)(hn0:n0≤1048576)(hn1:n1≤1048576)(hv0:SlSource w a0 n0 f0)(hv1:SlTarget w a1 n1 f1)(hm:∀ i,i<n1→FitsTarget (f1 i)) :
  Calls Tryz.prog 8 #[.agg #[.slice a0 n0 c0,.slice a1 n1 c1]] w fun e w'=>∃ g0 g1,e=.returned (.agg #[.slice (some ⟨g0,0,none⟩) n0 n0,.slice (some ⟨g1,0,none⟩) n1 n1])∧RowSource w' g0 0 n0 f0∧w.heap.size≤g0∧OwnTarget w' g1 n1 n1 f1∧g0<g1∧Below w.heap.size w w':=by
 have HV0:=hide hv0
 have HV1:=hide hv1
 have HM:=hide hm
 clear hv0 hv1 hm
 have A0:=hide ((((Below.refl w.heap.size w).alloc lr (.cells #[.slice a0 n0 c0,.slice a1 n1 c1] 25)).alloc (by simp) (.cells #[.slice none 0 0,.slice none 0 0] 34)).alloc (by first | (simp;omega) | simp) (.cells #[.slice none 0 0,.slice none 0 0] 34))
 go_enter Tryz.func8,Tryz.ntmps8
 go_wp2_with fail
 refine (toSourceS_any a0 n0 c0 f0 _ hn0 (HV0.out.below A0.out lr)).mono ?_
 rintro e w1 ⟨g0,rfl,hR0,hg0,hB1⟩
 have R0:=hide hR0
 obtain ⟨hc1,hz1⟩:=bcell hB1
 have B1:=hide (A0.out.trans (hB1.mono A0.out.size))
 have hs1:w.heap.size+1+1<w1.heap.size:=by have:=hB1.size;simp at this;omega
 have hu1:w.heap.size+1<w1.heap.size:=by omega
 have ht1:w.heap.size<w1.heap.size:=by omega
 have D1:=hide hB1
 clear hR0 hB1
 simp at hg0
 have hgl:g0<w1.heap.size:=R0.out.1
 go_wp2_with fail
 have A1:=hide (B1.out.setCell (p:=⟨w.heap.size+1+1,0,none⟩) (by first | (simp;omega) | simp) (.slice (some ⟨g0,0,none⟩) n0 n0))
 refine (toTargetS_any a1 n1 c1 f1 _ hn1 (HV1.out.below A1.out lr) HM.out).mono ?_
 rintro e w2 ⟨g1,rfl,hR1,hg1,hB2⟩
 have R1:=hide hR1
 obtain ⟨hc2,hz2⟩:=bcell hB2
 have B2:=hide (A1.out.trans (hB2.mono A1.out.size))
 have hs2:w.heap.size+1+1<w2.heap.size:=by have:=hB2.size;simp at this;omega
 have hu2:w.heap.size+1<w2.heap.size:=by omega
 have ht2:w.heap.size<w2.heap.size:=by omega
 have D2:=hide hB2
 clear hR1 hB2
 simp at hg1
 have q0:w2.cell? ⟨w.heap.size+1,0,none⟩=some (.slice none 0 0):=by
  rw [D2.out.cell (p:=⟨w.heap.size+1,0,none⟩) (by first | (simp;omega) | simp),cell_far _ _ _ _ (by simp)]
  rw [D1.out.cell (p:=⟨w.heap.size+1,0,none⟩) (by first | (simp;omega) | simp)]
  simp [go_sem]
 have q1:w2.cell? ⟨w.heap.size+1,1,none⟩=some (.slice none 0 0):=by
  rw [D2.out.cell (p:=⟨w.heap.size+1,1,none⟩) (by first | (simp;omega) | simp),cell_far _ _ _ _ (by simp)]
  rw [D1.out.cell (p:=⟨w.heap.size+1,1,none⟩) (by first | (simp;omega) | simp)]
  simp [go_sem]
 go_wp2
 refine bodyPost_ret (v:=.agg #[.slice (some ⟨g0,0,none⟩) n0 n0,.slice (some ⟨g1,0,none⟩) n1 n1]) (by simp [results,Tryz.results8,go_sem,q0,q1]) rfl ⟨g0,g1,rfl,?_,by omega,?_,by omega,?_⟩
 ·exact ((((R0.out.setOther _ (by first | (simp;omega) | simp) _).below D2.out lr).setOther _ (by first | (simp;omega) | simp) _).setOther _ (by first | (simp;omega) | simp) _).setOther _ (by first | (simp;omega) | simp) _
 ·exact ((R1.out.setOther _ (by first | (simp;omega) | simp) _).setOther _ (by first | (simp;omega) | simp) _).setOther _ (by first | (simp;omega) | simp) _
 ·exact ((B2.out.setCell (by first | (simp;omega) | simp) _).setCell (by first | (simp;omega) | simp) _).setCell (by first | (simp;omega) | simp) _
theorem eqSpace_any (a0 b0:Option Addr)(c0 d0 n0:Nat)(f0:Nat→Source)(a1 b1:Option Addr)(c1 d1 n1:Nat)(f1:Nat→Target)(w:World)(hn0:n0≤1048576)(hn1:n1≤1048576)(h0:SlSource w a0 n0 f0)(h0':SlSource w b0 n0 f0)(h1:SlTarget w a1 n1 f1)(h1':SlTarget w b1 n1 f1)(hm:∀ i,i<n1→FitsTarget (f1 i)) :
  Calls Tryz.prog 11 #[.agg #[.slice a0 n0 c0,.slice a1 n1 c1],.agg #[.slice b0 n0 d0,.slice b1 n1 d1]] w fun e w'=>e=.returned (.bool true)∧Below w.heap.size w w':=by
 have H0:=hide h0
 have H0':=hide h0'
 have H1:=hide h1
 have H1':=hide h1'
 have HM:=hide hm
 clear h0 h0' h1 h1' hm
 have A0:=hide (((Below.refl w.heap.size w).alloc lr (.cells #[.slice a0 n0 c0,.slice a1 n1 c1] 34)).alloc (by simp) (.cells #[.slice b0 n0 d0,.slice b1 n1 d1] 34))
 go_enter Tryz.func11,Tryz.ntmps11
 go_wp2_with fail
 refine (eqSourceS_any a0 b0 c0 d0 n0 f0 _ hn0 (H0.out.below A0.out lr) (H0'.out.below A0.out lr)).mono ?_
 rintro e w1 ⟨rfl,hB1⟩
 have k0:w1.cell? ⟨w.heap.size,1,none⟩=some (.slice a1 n1 c1):=(hB1.cell (p:=⟨w.heap.size,1,none⟩) (by simp<;>omega)).trans (by simp)
 have k1:w1.cell? ⟨w.heap.size+1,1,none⟩=some (.slice b1 n1 d1):=(hB1.cell (p:=⟨w.heap.size+1,1,none⟩) (by simp)).trans (by simp)
 have B1:=hide (A0.out.trans (hB1.mono (by simp;omega)))
 clear hB1 A0
 go_wp2_with fail
 refine (eqTargetS_any a1 b1 c1 d1 n1 f1 _ hn1 (H1.out.below B1.out lr) (H1'.out.below B1.out lr) HM.out).mono ?_
 rintro e w2 ⟨rfl,hB2⟩
 have B2:=hide (B1.out.trans (hB2.mono B1.out.size))
 clear hB2
 go_wp2
 go_ret
 exact ⟨rfl,B2.out⟩
def RowStr (w:World)(b off n:Nat)(f:Nat→ByteArray):Prop:=b<w.heap.size∧∀ i,i<n→w.cell? ⟨b,off+i,none⟩=some (.string (f i))
theorem RowStr.below {w w':World}{B b off n:Nat}{f:Nat→ByteArray}(h:RowStr w b off n f)(hb:Below B w w')(hB:w.heap.size≤B):RowStr w' b off n f :=
 ⟨Nat.lt_of_lt_of_le h.1 hb.size,fun i hi=>(hb.cell (p:=⟨b,_,none⟩) (Nat.lt_of_lt_of_le h.1 hB)).trans (h.2 i hi)⟩
theorem RowStr.low {w w':World}{B b off n:Nat}{f:Nat→ByteArray}(h:RowStr w b off n f)(hb:Below B w w')(hB:b<B):RowStr w' b off n f :=
 ⟨Nat.lt_of_lt_of_le h.1 hb.size,fun i hi=>(hb.cell (p:=⟨b,_,none⟩) hB).trans (h.2 i hi)⟩
theorem RowStr.setOther {w:World}{g n off:Nat}{f:Nat→ByteArray}(h:RowStr w g off n f)(p:Addr)(hp:p.block≠g)(v:Value):RowStr (w.setCell p v) g off n f :=
 ⟨by simpa using h.1,fun i hi=>(World.cell?_of_block (w:=w) (a:=⟨g,off+i,none⟩) (Below.heap_setCell w p v g (fun e=>hp e.symm))).trans (h.2 i hi)⟩
def SlStr (w:World)(a:Option Addr)(n:Nat)(f:Nat→ByteArray):Prop:=n=0∨∃ b off,a=some ⟨b,off,none⟩∧RowStr w b off n f
theorem SlStr.below {w w':World}{B:Nat}{a:Option Addr}{n:Nat}{f:Nat→ByteArray}(h:SlStr w a n f)(hb:Below B w w')(hB:w.heap.size≤B):SlStr w' a n f:=by
 rcases h with h | ⟨b,off,hv,hr⟩
 ·exact .inl h
 ·exact .inr ⟨b,off,hv,hr.below hb hB⟩
theorem RowStr.sl {w:World}{b off n:Nat}{f:Nat→ByteArray}(h:RowStr w b off n f):SlStr w (some ⟨b,off,none⟩) n f:=.inr ⟨b,off,rfl,h⟩
theorem infoString:(Tryz.prog.info? 9).map (fun i=>(i.zero,i.size,i.bytes))=some (some (.string ⟨#[]⟩),1,16):=by kernel_rfl
end Go.Proofs.YtfnbojfnelfnkaaGreatDoor.Vp
