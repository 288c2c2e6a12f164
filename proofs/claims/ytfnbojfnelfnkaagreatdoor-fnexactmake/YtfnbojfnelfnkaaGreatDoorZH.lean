import Derived.Test.YtfnbojfnelfnkaaGreatDoorZD
import Derived.Lib.ItoaNum
import Derived.Lib.ItoaLen
import Derived.Lib.ItoaMem
import Derived.Test.YtfnbojfnelfnkaaGreatDoorZE
set_option maxRecDepth 100000
set_option maxHeartbeats 4000000
namespace Go.Proofs.YtfnbojfnelfnkaaGreatDoor.Vp
open Go.RowKit
def mkT (k:Int):ByteArray:=⟨(109 :: Lib.decDigits k.toNat).toArray⟩
def mdig (n:Nat):UInt8:=UInt8.ofNat (48+n)
theorem mdigit (n:Nat)(h:n<10):(48+(n:Int))=(mdig n).toNat:=by
 unfold mdig
 rw [UInt8.toNat_ofNat']
 omega
theorem mconv_one (x:Int)(b:UInt8)(h:x=b.toNat)(w:World)(g:Nat)(hc:w.cell? ⟨g,0,none⟩=some (.int .u8 x)):(convert 48 9 (.slice (some ⟨g,0,none⟩) 1 1)).run Tryz.prog w=.ok (.string ⟨#[b]⟩) w:=by
 refine run_convert_bytes_back _ 48 9 5 ⟨g,0,none⟩ 1 [b] Tryz.underlying48 Tryz.underlying5 Tryz.underlying9 ?_
 intro j hj
 obtain rfl:j=0:=by simpa using hj
 simp [Addr.add,hc,h]
def mdec (m:Nat):List UInt8:=if m=0 then [] else Lib.decDigits m
theorem mdec_snoc {m:Nat}(h:0<m):mdec m=mdec (m / 10)++[mdig (m % 10)]:=by
 unfold mdec
 rw [if_neg (by omega)]
 by_cases h1:m<10
 ·rw [Lib.decDigits_one h1,if_pos (by omega),show m % 10=m by omega]
  rfl
 ·rw [Lib.decDigits,dif_neg h1,if_neg (by omega)]
  rfl
theorem dec_len64 (n:Nat)(h:n≤9223372036854775807):(Lib.decDigits n).length≤21:=by rw [← Lib.itoa_nonneg];exact Lib.itoa_length_le _ (by omega) (by omega)
theorem cat_one (b:UInt8)(l:List UInt8):(⟨#[b]⟩:ByteArray)++⟨l.toArray⟩=⟨(b :: l).toArray⟩:=by
 apply ByteArray.ext
 simp
theorem markText_any (n:Nat)(w:World)(h1:1≤n)(h2:n≤9223372036854775807) :
  Calls Tryz.prog 99 #[.int .i64 n] w fun e w'=>e=.returned (.string (mkT n))∧Below w.heap.size w w':=by
 have HL:=hide (dec_len64 n h2)
 have hp:decide ((n:Int)≤0)=false:=by simp;omega
 have hp2:0<(n:Int):=by omega
 go_enter Tryz.func99,Tryz.ntmps99
 go_wp2
 go_loopw [0,3] (fun i v wr=>∃ (m:Nat) (l:List UInt8),i=.int .i64 m∧m≤n∧v=.string ⟨l.toArray⟩∧Hid (Lib.decDigits n=mdec m++l)∧Below w.heap.size w wr) (fun i _ _=>(intOf i).toNat)
 case atStart=>exact ⟨n,[],rfl,Nat.le_refl _,rfl,by show Lib.decDigits n=mdec n++[];simp [mdec];intro h;omega,Below.refl _ _⟩
 case round =>
  obtain ⟨m,l,rfl,hm,rfl,hd,hB⟩:=hrel
  have HB:=hide hB
  have hsz:w.heap.size≤wr.heap.size:=hB.size
  clear hB
  have hll:l.length≤21:=by
   have h3:=HL.out
   rw [hd.out,List.length_append] at h3
   omega
  by_cases hlt:0<m
  ·have hlt':0<(m:Int):=by omega
   have hcv:=mconv_one (48+(m:Int) % 10) (mdig (m % 10)) (by have:=mdigit (m % 10) (by omega);omega)
   go_wp2
   exact ⟨⟨m / 10,mdig (m % 10) :: l,by rw [Int.natCast_ediv];rfl,by omega,by rw [cat_one],by
    show Lib.decDigits n=mdec (m / 10)++(mdig (m % 10) :: l)
    rw [hd.out,mdec_snoc hlt,List.append_assoc]
    rfl,HB.out.alloc hsz _⟩,by simp [intOf];omega⟩
  ·have e:m=0:=by omega
   subst e
   go_wp2
   all_goals go_ret
   refine ⟨ret_str ?_,HB.out⟩
   have hl:l=Lib.decDigits n:=by
    have h3:=hd.out
    simpa [mdec] using h3.symm
   rw [hl]
   apply ByteArray.ext
   simp [mkT]
theorem markText_int (x:Int)(w:World)(h1:1≤x)(h2:x≤9223372036854775807) :
  Calls Tryz.prog 99 #[.int .i64 x] w fun e w'=>e=.returned (.string (mkT x))∧Below w.heap.size w w':=by
 obtain ⟨n,rfl⟩:=Int.eq_ofNat_of_zero_le (show 0≤x by omega)
 exact markText_any n w (by omega) (by omega)
structure Within (lo hi:Nat)(w w':World):Prop where
 os:w'.os=w.os
 tape:w'.tape=w.tape
 output:w'.output=w.output
 size:w.heap.size≤w'.heap.size
 block:∀ k,k<w.heap.size→k<lo∨hi≤k→w'.heap[k]?=w.heap[k]?
theorem Within.refl (lo hi:Nat)(w:World):Within lo hi w w:=⟨rfl,rfl,rfl,Nat.le_refl _,fun _ _ _=>rfl⟩
theorem Within.trans {lo hi:Nat}{a b c:World}(h:Within lo hi a b)(k:Within lo hi b c):Within lo hi a c :=
 ⟨k.os.trans h.os,k.tape.trans h.tape,k.output.trans h.output,Nat.le_trans h.size k.size,fun i hi ho=>(k.block i (Nat.lt_of_lt_of_le hi h.size) ho).trans (h.block i hi ho)⟩
theorem Within.of_below {lo hi B:Nat}{w w':World}(h:Below B w w')(hB:w.heap.size≤B):Within lo hi w w' :=
 ⟨h.os,h.tape,h.output,h.size,fun i hi _=>h.block i (Nat.lt_of_lt_of_le hi hB)⟩
theorem Within.below {lo hi B:Nat}{a w w':World}(h:Within lo hi a w)(hb:Below B w w')(hB:w.heap.size≤B):Within lo hi a w':=h.trans (Within.of_below hb hB)
theorem Within.setCell {lo hi:Nat}{a w:World}(h:Within lo hi a w){p:Addr}(h1:lo≤p.block)(h2:p.block<hi)(v:Value):Within lo hi a (w.setCell p v) :=
 h.trans ⟨rfl,rfl,rfl,by simp [World.setCell],fun k _ ho=>Below.heap_setCell _ _ _ _ (by omega)⟩
theorem Within.mono {lo hi lo' hi':Nat}{w w':World}(h:Within lo hi w w')(h1:lo'≤lo)(h2:hi≤hi'):Within lo' hi' w w' :=
 ⟨h.os,h.tape,h.output,h.size,fun k hk ho=>h.block k hk (by omega)⟩
theorem Within.toBelow {lo hi:Nat}{w w':World}(h:Within lo hi w w')(hl:lo≤w.heap.size):Below lo w w' :=
 ⟨h.os,h.tape,h.output,h.size,fun k hk=>h.block k (by omega) (.inl hk)⟩
def Cells (w:World)(b off m:Nat)(F:Nat→Value):Prop:=b<w.heap.size∧∀ j,j<m→w.cell? ⟨b,off+j,none⟩=some (F j)∧w.frozen? ⟨b,off+j,none⟩=false
theorem Cells.below {w w':World}{B b off m:Nat}{F:Nat→Value}(h:Cells w b off m F)(hb:Below B w w')(hB:b<B):Cells w' b off m F :=
 ⟨Nat.lt_of_lt_of_le h.1 hb.size,fun j hj=>⟨(hb.cell (p:=⟨b,_,none⟩) hB).trans (h.2 j hj).1,(hb.frozen (p:=⟨b,_,none⟩) hB).trans (h.2 j hj).2⟩⟩
theorem Cells.set {w:World}{b off m:Nat}{F:Nat→Value}(h:Cells w b off m F)(j:Nat)(hj:j<m)(v:Value):Cells (w.setCell ⟨b,off+j,none⟩ v) b off m (fun x=>if x=j then v else F x):=by
 refine ⟨by simpa using h.1,fun x hx=>⟨?_,?_⟩⟩
 ·by_cases e:x=j
  ·subst e
   exact (World.cell?_setCell_same' _ _ _ (by rw [(h.2 x hx).1];rfl)).trans (by simp)
  ·have hne:(⟨b,off+j,none⟩:Addr)≠⟨b,off+x,none⟩:=by
    intro q
    exact e (by simpa using q.symm)
   exact (World.cell?_setCell_other _ _ _ _ hne).trans ((h.2 x hx).1.trans (by simp [e]))
 ·have:=(h.2 x hx).2
  simpa using this
theorem Cells.congr {w:World}{b off m:Nat}{F G:Nat→Value}(h:Cells w b off m F)(e:∀ j,j<m→F j=G j):Cells w b off m G :=
 ⟨h.1,fun j hj=>by rw [← e j hj];exact h.2 j hj⟩
theorem Cells.at {w:World}{b off m:Nat}{F:Nat→Value}(h:Cells w b off m F)(x j:Nat)(hx:x=off+j)(hj:j<m):w.cell? ⟨b,x,none⟩=some (F j)∧w.frozen? ⟨b,x,none⟩=false:=by
 subst hx
 exact h.2 j hj
theorem Cells.setAt {w:World}{b off m:Nat}{F:Nat→Value}(h:Cells w b off m F)(x j:Nat)(hx:x=off+j)(hj:j<m)(v:Value):Cells (w.setCell ⟨b,x,none⟩ v) b off m (fun y=>if y=j then v else F y):=by
 subst hx
 exact h.set j hj v
theorem Cells.within {w w':World}{b off m lo hi:Nat}{F:Nat→Value}(h:Cells w b off m F)(hw:Within lo hi w w')(hb:b<lo∨hi≤b):Cells w' b off m F:=by
 have e:=hw.block b h.1 hb
 exact ⟨Nat.lt_of_lt_of_le h.1 hw.size,fun j hj=>⟨(World.cell?_of_block (a:=⟨b,off+j,none⟩) e).trans (h.2 j hj).1,(World.frozen?_of_block (a:=⟨b,off+j,none⟩) e).trans (h.2 j hj).2⟩⟩
theorem cells_of_row {w:World}{b n:Nat}{t:TypeId}{F:Nat→Value}(h:w.rowIs b t n F):Cells w b 0 n F :=
 ⟨h.lt,fun j hj=>by rw [Nat.zero_add];exact ⟨h.cell hj,h.frozen j⟩⟩
theorem OwnIns.lt {w:World}{g n k:Nat}{f:Nat→Ins}(h:OwnIns w g n k f):g<w.heap.size:=by
 obtain ⟨F,hr,_⟩:=h
 exact hr.lt
theorem OwnIns.setOther {w:World}{g n k:Nat}{f:Nat→Ins}(h:OwnIns w g n k f)(p:Addr)(hp:p.block≠g)(v:Value):OwnIns (w.setCell p v) g n k f:=by
 obtain ⟨F,hr,hF⟩:=h
 exact ⟨F,hr.setOther (fun e=>hp e.symm) v,hF⟩
theorem OwnIns.kept {w w':World}{g n k:Nat}{f:Nat→Ins}{B:Nat}(h:OwnIns w g n k f)(hb:Below B w w')(hB:w.heap.size≤B):OwnIns w' g n k f:=h.below hb (Nat.lt_of_lt_of_le h.lt hB)
theorem OwnIns.cells {w:World}{g n:Nat}{f:Nat→Ins}(h:OwnIns w g n n f):∃ F,Cells w g 0 (n*3) F:=by
 obtain ⟨F,hr,_⟩:=h
 exact ⟨F,cells_of_row hr⟩
theorem toInsS_rowO (b off n cap:Nat)(f:Nat→Ins)(w:World)(hn:n≤1048576)(hb:b<w.heap.size)(hf:∀ i,i<n→AtIns w b off i (f i)) :
  Calls Tryz.prog 153 #[.slice (some ⟨b,off,none⟩) n cap] w fun e w'=>∃ g,e=.returned (.slice (some ⟨g,0,none⟩) n n)∧OwnIns w' g n n f∧w.heap.size≤g∧Below w.heap.size w w':=by
 have HF:=hide hf
 clear hf
 have hmk:=mkIns n hn
 go_enter Tryz.func153,Tryz.ntmps153
 go_wp2
 clear hmk
 go_loopw [4] (fun i wr=>∃ k:Nat,k≤n∧i=.int .i64 k∧OwnIns wr w.heap.size n k f∧Below w.heap.size w wr) (fun i _=>n - (intOf i).toNat)
 case atStart=>exact ⟨0,by omega,rfl,ownIns_start w n f,(Below.refl _ _).alloc lr _⟩
 case round =>
  obtain ⟨k,hk,rfl,hO,hB⟩:=hrel
  have HO:=hide hO
  by_cases hlt:k<n
  ·obtain ⟨c0,c1,c2⟩:=(HF.out k hlt).below hB hb
   clear hO
   go_wp2_with fail
   refine (toIns_any _ _ _ _).mono ?_
   rintro e w1 ⟨rfl,hB1⟩
   have HO1:Hid (OwnIns w1 w.heap.size n k f):=HO.out.below hB1 (by obtain ⟨F,hr,_⟩:=HO.out;exact hr.lt)
   obtain ⟨F,hr,_⟩:=HO1.out
   have d0:=hr.cell (i:=k*3) (by omega)
   have z0:=hr.frozen (k*3)
   have d1:=hr.cell (i:=k*3+1) (by omega)
   have z1:=hr.frozen (k*3+1)
   have d2:=hr.cell (i:=k*3+2) (by omega)
   have z2:=hr.frozen (k*3+2)
   clear hr c0 c1 c2
   go_wp2
   exact ⟨⟨k+1,by omega,by go_num,HO1.out.step,(((hB.trans (hB1.mono hB.size)).setCell lr _).setCell lr _).setCell lr _⟩,by simp [intOf];omega⟩
  ·have e:k=n:=by omega
   subst e
   clear hO
   go_wp2
   go_ret
   exact ⟨_,rfl,HO.out,Nat.le_refl _,hB⟩
theorem toInsS_nilO (a:Option Addr)(cap:Nat)(f:Nat→Ins)(w:World) :
  Calls Tryz.prog 153 #[.slice a 0 cap] w fun e w'=>∃ g,e=.returned (.slice (some ⟨g,0,none⟩) 0 0)∧OwnIns w' g 0 0 f∧w.heap.size≤g∧Below w.heap.size w w':=by
 have hmk:∀ w:World,(Instr.makeSlice 51 (.int .i64 0) (.int .i64 0)).run Tryz.prog w=.ok (.slice (some ⟨w.heap.size,0,none⟩) 0 0) (w.alloc (.cells (zerosIns 0) 162)):=fun w=>mkIns 0 (by omega) w
 go_enter Tryz.func153,Tryz.ntmps153
 go_wp2
 clear hmk
 go_loop [4] (fun i=>i=.int .i64 0) (fun _=>0)
 case atStart=>rfl
 case round =>
  subst hrel
  go_wp2
  go_ret
  exact ⟨_,rfl,ownIns_start w 0 f,Nat.le_refl _,(Below.refl _ _).alloc lr _⟩
theorem toInsS_anyO (a:Option Addr)(n cap:Nat)(f:Nat→Ins)(w:World)(hn:n≤1048576)(hv:SlIns w a n f) :
  Calls Tryz.prog 153 #[.slice a n cap] w fun e w'=>∃ g,e=.returned (.slice (some ⟨g,0,none⟩) n n)∧OwnIns w' g n n f∧w.heap.size≤g∧Below w.heap.size w w':=by
 rcases hv with rfl | ⟨b,off,rfl,hl,hc⟩
 ·exact toInsS_nilO a cap f w
 ·exact toInsS_rowO b off n cap f w hn hl hc
theorem toProgram_anyO (a:Option Addr)(n cap:Nat)(f:Nat→Ins)(w:World)(hn:n≤1048576)(hv:SlIns w a n f) :
  Calls Tryz.prog 135 #[.agg #[.slice a n cap]] w fun e w'=>∃ g,e=.returned (.agg #[.slice (some ⟨g,0,none⟩) n n])∧OwnIns w' g n n f∧w.heap.size≤g∧Below w.heap.size w w':=by
 have HV:=hide hv
 clear hv
 go_enter Tryz.func135,Tryz.ntmps135
 go_wp2_with fail
 refine (toInsS_anyO a n cap f _ hn (HV.out.below ((((Below.refl _ _).alloc lr _).alloc (by simp) _).alloc (by simp;omega) _) lr)).mono ?_
 rintro e w' ⟨g,rfl,hv',hg,hB⟩
 have HV':=hide hv'
 have HB:=hide hB
 obtain ⟨hc,hz⟩:=bcell hB
 clear hv' hB
 simp at hg
 go_wp2
 refine bodyPost_ret (v:=.agg #[.slice (some ⟨g,0,none⟩) n n]) (by simp [results,Tryz.results135,go_sem,hc]) rfl ⟨g,rfl,(HV'.out.setOther _ (by simp;omega) _).setOther _ (by simp;omega) _,by omega,?_⟩
 exact ((((((Below.refl _ _).alloc lr _).alloc (by simp) _).alloc (by simp;omega) _).trans (HB.out.mono (by simp;omega))).setCell (by simp;omega) _).setCell (by simp) _
theorem OwnSource.lt {w:World}{g n k:Nat}{f:Nat→Source}(h:OwnSource w g n k f):g<w.heap.size:=by
 obtain ⟨F,hr,_⟩:=h
 exact hr.lt
theorem OwnSource.setOther {w:World}{g n k:Nat}{f:Nat→Source}(h:OwnSource w g n k f)(p:Addr)(hp:p.block≠g)(v:Value):OwnSource (w.setCell p v) g n k f:=by
 obtain ⟨F,hr,hF⟩:=h
 exact ⟨F,hr.setOther (fun e=>hp e.symm) v,hF⟩
theorem OwnSource.kept {w w':World}{g n k:Nat}{f:Nat→Source}{B:Nat}(h:OwnSource w g n k f)(hb:Below B w w')(hB:w.heap.size≤B):OwnSource w' g n k f:=h.below hb (Nat.lt_of_lt_of_le h.lt hB)
theorem OwnSource.cells {w:World}{g n:Nat}{f:Nat→Source}(h:OwnSource w g n n f):∃ F,Cells w g 0 (n*2) F:=by
 obtain ⟨F,hr,_⟩:=h
 exact ⟨F,cells_of_row hr⟩
theorem toSourceS_rowO (b off n cap:Nat)(f:Nat→Source)(w:World)(hn:n≤1048576)(hb:b<w.heap.size)(hf:∀ i,i<n→AtSource w b off i (f i)) :
  Calls Tryz.prog 37 #[.slice (some ⟨b,off,none⟩) n cap] w fun e w'=>∃ g,e=.returned (.slice (some ⟨g,0,none⟩) n n)∧OwnSource w' g n n f∧w.heap.size≤g∧Below w.heap.size w w':=by
 have HF:=hide hf
 clear hf
 have hmk:=mkSource n hn
 go_enter Tryz.func37,Tryz.ntmps37
 go_wp2
 clear hmk
 go_loopw [4] (fun i wr=>∃ k:Nat,k≤n∧i=.int .i64 k∧OwnSource wr w.heap.size n k f∧Below w.heap.size w wr) (fun i _=>n - (intOf i).toNat)
 case atStart=>exact ⟨0,by omega,rfl,ownSource_start w n f,(Below.refl _ _).alloc lr _⟩
 case round =>
  obtain ⟨k,hk,rfl,hO,hB⟩:=hrel
  have HO:=hide hO
  by_cases hlt:k<n
  ·obtain ⟨c0,c1⟩:=(HF.out k hlt).below hB hb
   clear hO
   go_wp2_with fail
   refine (toSource_any _ _ _).mono ?_
   rintro e w1 ⟨rfl,hB1⟩
   have HO1:Hid (OwnSource w1 w.heap.size n k f):=HO.out.below hB1 (by obtain ⟨F,hr,_⟩:=HO.out;exact hr.lt)
   obtain ⟨F,hr,_⟩:=HO1.out
   have d0:=hr.cell (i:=k*2) (by omega)
   have z0:=hr.frozen (k*2)
   have d1:=hr.cell (i:=k*2+1) (by omega)
   have z1:=hr.frozen (k*2+1)
   clear hr c0 c1
   go_wp2
   exact ⟨⟨k+1,by omega,by go_num,HO1.out.step,((hB.trans (hB1.mono hB.size)).setCell lr _).setCell lr _⟩,by simp [intOf];omega⟩
  ·have e:k=n:=by omega
   subst e
   clear hO
   go_wp2
   go_ret
   exact ⟨_,rfl,HO.out,Nat.le_refl _,hB⟩
theorem toSourceS_nilO (a:Option Addr)(cap:Nat)(f:Nat→Source)(w:World) :
  Calls Tryz.prog 37 #[.slice a 0 cap] w fun e w'=>∃ g,e=.returned (.slice (some ⟨g,0,none⟩) 0 0)∧OwnSource w' g 0 0 f∧w.heap.size≤g∧Below w.heap.size w w':=by
 have hmk:∀ w:World,(Instr.makeSlice 31 (.int .i64 0) (.int .i64 0)).run Tryz.prog w=.ok (.slice (some ⟨w.heap.size,0,none⟩) 0 0) (w.alloc (.cells (zerosSource 0) 107)):=fun w=>mkSource 0 (by omega) w
 go_enter Tryz.func37,Tryz.ntmps37
 go_wp2
 clear hmk
 go_loop [4] (fun i=>i=.int .i64 0) (fun _=>0)
 case atStart=>rfl
 case round =>
  subst hrel
  go_wp2
  go_ret
  exact ⟨_,rfl,ownSource_start w 0 f,Nat.le_refl _,(Below.refl _ _).alloc lr _⟩
theorem toSourceS_anyO (a:Option Addr)(n cap:Nat)(f:Nat→Source)(w:World)(hn:n≤1048576)(hv:SlSource w a n f) :
  Calls Tryz.prog 37 #[.slice a n cap] w fun e w'=>∃ g,e=.returned (.slice (some ⟨g,0,none⟩) n n)∧OwnSource w' g n n f∧w.heap.size≤g∧Below w.heap.size w w':=by
 rcases hv with rfl | ⟨b,off,rfl,hl,hc⟩
 ·exact toSourceS_nilO a cap f w
 ·exact toSourceS_rowO b off n cap f w hn hl hc
theorem toTarget_anyO (x:Target)(a0:Option Addr)(cap0:Nat)(w:World)(hfit:FitsTarget x)(hv0:SlIns w a0 x.actN x.act) :
  Calls Tryz.prog 92 #[.agg #[.string x.name,.slice a0 x.actN cap0]] w fun e w'=>∃ g0,e=.returned (.agg #[.string x.name,.slice (some ⟨g0,0,none⟩) x.actN x.actN])∧OwnIns w' g0 x.actN x.actN x.act∧w.heap.size≤g0∧Below w.heap.size w w':=by
 have V0:=hide hv0
 clear hv0
 have hfit:=hide hfit
 have A0:Hid (Below w.heap.size w (((w.alloc (.cells #[.string x.name,.slice a0 x.actN cap0] 130)).alloc (.cells #[.string ⟨#[]⟩,.slice none 0 0] 110)).alloc (.cells #[.string x.name,.slice none 0 0] 110))):=(((Below.refl _ _).alloc lr _).alloc (by simp) _).alloc (by first | (simp;omega) | simp) _
 go_enter Tryz.func92,Tryz.ntmps92
 go_wp2_with fail
 refine (toProgram_anyO a0 x.actN cap0 x.act _ hfit.out (V0.out.below A0.out lr)).mono ?_
 rintro e w1 ⟨g0,rfl,hR0,hg0,hB1⟩
 have R0:=hide hR0
 obtain ⟨hc1,hz1⟩:=bcell hB1
 have B1:=hide (A0.out.trans (hB1.mono A0.out.size))
 have hs1:w.heap.size+1+1<w1.heap.size:=by have:=hB1.size;simp at this;omega
 have hu1:w.heap.size+1<w1.heap.size:=by omega
 have ht1:w.heap.size<w1.heap.size:=by omega
 have D1:=hide hB1
 clear hR0 hB1
 simp at hg0
 have q0:w1.cell? ⟨w.heap.size+1,0,none⟩=some (.string ⟨#[]⟩):=by
  rw [D1.out.cell (p:=⟨w.heap.size+1,0,none⟩) (by first | (simp;omega) | simp)]
  simp [go_sem]
 have q1:w1.cell? ⟨w.heap.size+1,1,none⟩=some (.slice none 0 0):=by
  rw [D1.out.cell (p:=⟨w.heap.size+1,1,none⟩) (by first | (simp;omega) | simp)]
  simp [go_sem]
 go_wp2
 exact bodyPost_ret (v:=.agg #[.string x.name,.slice (some ⟨g0,0,none⟩) x.actN x.actN]) (by simp [results,Tryz.results92,go_sem,q0,q1]) rfl ⟨g0,rfl,(((R0.out).setOther _ (by first | (simp;omega) | simp) _).setOther _ (by first | (simp;omega) | simp) _).setOther _ (by first | (simp;omega) | simp) _,by omega,(((B1.out).setCell (by first | (simp;omega) | simp) _).setCell (by first | (simp;omega) | simp) _).setCell (by first | (simp;omega) | simp) _⟩
def OwnTarget2 (w:World)(g n k N:Nat)(f:Nat→Target):Prop :=
 ∃ (F:Nat→Value) (G0:Nat→Nat),w.rowIs g 110 (n*2) F∧(∀ i j,i<j→j<k→G0 i<G0 j)∧(∀ i,i<k→G0 i<N)∧∀ i,i<k→F (i*2)=.string (f i).name∧(F (i*2+1)=.slice (some ⟨G0 i,0,none⟩) (f i).actN (f i).actN∧OwnIns w (G0 i) (f i).actN (f i).actN (f i).act∧g<G0 i)
theorem OwnTarget2.lt {w:World}{g n k N:Nat}{f:Nat→Target}(h:OwnTarget2 w g n k N f):g<w.heap.size:=by
 obtain ⟨F,G0,hr,_⟩:=h
 exact hr.lt
theorem ownTarget2_start (w:World)(n N:Nat)(f:Nat→Target):OwnTarget2 (w.alloc (.cells (zerosTarget n) 110)) w.heap.size n 0 N f:=by
 have hz:(zerosTarget n).size=n*2:=size_madeCells _ _
 have h:=World.rowIs_alloc w (zerosTarget n) 110 (fun i=>(zerosTarget n)[i]?.getD undef) (fun i hi=>by rw [Array.getElem?_eq_getElem hi];rfl)
 rw [hz] at h
 exact ⟨_,fun _=>0,h,fun i j _ hj=>absurd hj (Nat.not_lt_zero _),fun i hi=>absurd hi (Nat.not_lt_zero _),fun i hi=>absurd hi (Nat.not_lt_zero _)⟩
theorem OwnTarget2.below {w w':World}{g n k N:Nat}{f:Nat→Target}{B:Nat}(h:OwnTarget2 w g n k N f)(hb:Below B w w')(hB:w.heap.size≤B):OwnTarget2 w' g n k N f:=by
 have hl:=h.lt
 obtain ⟨F,G0,hr,ha,hN,hF⟩:=h
 refine ⟨F,G0,hr.of_block (hb.block g (Nat.lt_of_lt_of_le hl hB)),ha,hN,fun i hi=>?_⟩
 obtain ⟨p0,⟨s0,r0,u0⟩⟩:=hF i hi
 exact ⟨p0,⟨s0,r0.kept hb hB,u0⟩⟩
theorem OwnTarget2.setOther {w:World}{g n k N:Nat}{f:Nat→Target}(h:OwnTarget2 w g n k N f)(p:Addr)(hp:p.block<g)(v:Value):OwnTarget2 (w.setCell p v) g n k N f:=by
 obtain ⟨F,G0,hr,ha,hN,hF⟩:=h
 refine ⟨F,G0,hr.setOther (by omega) v,ha,hN,fun i hi=>?_⟩
 obtain ⟨p0,⟨s0,r0,u0⟩⟩:=hF i hi
 exact ⟨p0,⟨s0,r0.setOther p (by omega) v,u0⟩⟩
theorem OwnTarget2.old {w:World}{g n k N:Nat}{f:Nat→Target}(h:OwnTarget2 w g n k N f):OwnTarget w g n k f:=by
 obtain ⟨F,G0,hr,ha,hN,hF⟩:=h
 refine ⟨F,G0,hr,fun i hi=>?_⟩
 obtain ⟨p0,⟨s0,r0,u0⟩⟩:=hF i hi
 exact ⟨p0,⟨s0,r0.row,u0⟩⟩
theorem OwnTarget2.row {w:World}{g n N:Nat}{f:Nat→Target}(h:OwnTarget2 w g n n N f):RowTarget w g 0 n f:=h.old.row
theorem OwnTarget2.step {w:World}{g n k g0 N:Nat}{f:Nat→Target}(h:OwnTarget2 w g n k N f)(R0:OwnIns w g0 (f k).actN (f k).actN (f k).act)(hg0:g<g0)(hN0:N≤g0) :
  OwnTarget2 ((w.setCell ⟨g,k*2,none⟩ (.string (f k).name)).setCell ⟨g,k*2+1,none⟩ (.slice (some ⟨g0,0,none⟩) (f k).actN (f k).actN)) g n (k+1) (g0+1) f:=by
 obtain ⟨F,G0,hr,ha,hN,hF⟩:=h
 refine ⟨_,fun i=>if i=k then g0 else G0 i,((hr.set _ _).set _ _),fun i j hij hj=>?_,fun i hi=>?_,fun i hi=>?_⟩
 ·dsimp only
  rw [if_neg (show ¬ i=k by omega)]
  by_cases e:j=k
  ·rw [if_pos e]
   have:=hN i (by omega)
   omega
  ·rw [if_neg e]
   exact ha i j hij (by omega)
 ·dsimp only
  by_cases e:i=k
  ·rw [if_pos e]
   omega
  ·rw [if_neg e]
   have:=hN i (by omega)
   omega
 ·by_cases e:i=k
  ·subst e
   exact ⟨by simp,⟨by simp,by dsimp only;rw [if_pos rfl];exact ((R0).setOther _ (by first | (simp;omega) | simp) _).setOther _ (by first | (simp;omega) | simp) _,by dsimp only;rw [if_pos rfl];exact hg0⟩⟩
  ·obtain ⟨p0,⟨s0,r0,u0⟩⟩:=hF i (by omega)
   refine ⟨?_,?_⟩
   ·show (if _ then _ else if _ then _ else _)=_
    rw [if_neg (by omega),if_neg (by omega),p0]
   ·dsimp only
    rw [if_neg e]
    refine ⟨?_,((r0).setOther _ (by first | (simp;omega) | simp) _).setOther _ (by first | (simp;omega) | simp) _,u0⟩
    show (if _ then _ else if _ then _ else _)=_
    rw [if_neg (by omega),if_neg (by omega),s0]
theorem own2_up {w:World}{g n k N:Nat}{f:Nat→Target}(h:OwnTarget2 w g n k N f)(hN:N≤w.heap.size):OwnTarget2 w g n k w.heap.size f:=by
 obtain ⟨F,G0,hr,ha,hb,hF⟩:=h
 exact ⟨F,G0,hr,ha,fun i hi=>Nat.lt_of_lt_of_le (hb i hi) hN,hF⟩
theorem toTargetS_rowO (b off n cap:Nat)(f:Nat→Target)(w:World)(hn:n≤1048576)(hf:RowTarget w b off n f)(hm:∀ i,i<n→FitsTarget (f i)) :
  Calls Tryz.prog 38 #[.slice (some ⟨b,off,none⟩) n cap] w fun e w'=>∃ g,e=.returned (.slice (some ⟨g,0,none⟩) n n)∧OwnTarget2 w' g n n w'.heap.size f∧w.heap.size≤g∧Below w.heap.size w w':=by
 have HF:=hide hf
 have HM:=hide hm
 clear hf hm
 have hmk:=mkTarget n hn
 go_enter Tryz.func38,Tryz.ntmps38
 go_wp2
 clear hmk
 go_loopw [4] (fun i wr=>∃ k:Nat,k≤n∧i=.int .i64 k∧OwnTarget2 wr w.heap.size n k wr.heap.size f∧Below w.heap.size w wr) (fun i _=>n - (intOf i).toNat)
 case atStart=>exact ⟨0,by omega,rfl,ownTarget2_start w n _ f,(Below.refl _ _).alloc lr _⟩
 case round =>
  obtain ⟨k,hk,rfl,hO,hB⟩:=hrel
  have HO:=hide hO
  have HB:=hide hB
  have hsz:w.heap.size≤wr.heap.size:=hB.size
  have hlo:w.heap.size<wr.heap.size:=hO.lt
  clear hB
  by_cases hlt:k<n
  ·obtain ⟨p0,⟨a0,cap0,s0,r0⟩⟩:=(HF.out.2 k hlt).below HB.out lr HF.out.1
   have HR:=hide (show SlIns wr a0 (f k).actN (f k).act from r0)
   clear hO r0
   go_wp2_with fail
   refine (toTarget_anyO (f k) a0 cap0 _ (HM.out k hlt) HR.out).mono ?_
   rintro e w1 ⟨g0,rfl,hR0,hg0,hB1⟩
   have HO1:=hide (HO.out.below hB1 lr)
   have R0:=hide hR0
   have HB1:=hide (HB.out.trans (hB1.mono hsz))
   clear hB1 hR0
   have hl1:=R0.out.lt
   have ST:=hide (own2_up (HO1.out.step R0.out (by omega) hg0) (by simp;omega))
   obtain ⟨F,G0,hr,_⟩:=HO1.out
   have d0:=hr.cell (i:=k*2) (by omega)
   have z0:=hr.frozen (k*2)
   have d1:=hr.cell (i:=k*2+1) (by omega)
   have z1:=hr.frozen (k*2+1)
   clear hr p0 s0
   go_wp2
   exact ⟨⟨k+1,by omega,by go_num,ST.out,((HB1.out).setCell lr _).setCell lr _⟩,by simp [intOf];omega⟩
  ·have e:k=n:=by omega
   subst e
   clear hO
   go_wp2
   go_ret
   exact ⟨_,rfl,HO.out,Nat.le_refl _,HB.out⟩
theorem toTargetS_nilO (a:Option Addr)(cap:Nat)(f:Nat→Target)(w:World) :
  Calls Tryz.prog 38 #[.slice a 0 cap] w fun e w'=>∃ g,e=.returned (.slice (some ⟨g,0,none⟩) 0 0)∧OwnTarget2 w' g 0 0 w'.heap.size f∧w.heap.size≤g∧Below w.heap.size w w':=by
 have hmk:∀ w:World,(Instr.makeSlice 32 (.int .i64 0) (.int .i64 0)).run Tryz.prog w=.ok (.slice (some ⟨w.heap.size,0,none⟩) 0 0) (w.alloc (.cells (zerosTarget 0) 110)):=fun w=>mkTarget 0 (by omega) w
 go_enter Tryz.func38,Tryz.ntmps38
 go_wp2
 clear hmk
 go_loop [4] (fun i=>i=.int .i64 0) (fun _=>0)
 case atStart=>rfl
 case round =>
  subst hrel
  go_wp2
  go_ret
  exact ⟨_,rfl,ownTarget2_start w 0 _ f,Nat.le_refl _,(Below.refl _ _).alloc lr _⟩
theorem toTargetS_anyO (a:Option Addr)(n cap:Nat)(f:Nat→Target)(w:World)(hn:n≤1048576)(hv:SlTarget w a n f)(hm:∀ i,i<n→FitsTarget (f i)) :
  Calls Tryz.prog 38 #[.slice a n cap] w fun e w'=>∃ g,e=.returned (.slice (some ⟨g,0,none⟩) n n)∧OwnTarget2 w' g n n w'.heap.size f∧w.heap.size≤g∧Below w.heap.size w w':=by
 rcases hv with rfl | ⟨b,off,rfl,hr⟩
 ·exact toTargetS_nilO a cap f w
 ·exact toTargetS_rowO b off n cap f w hn hr hm
theorem toSpace_anyO (a0:Option Addr)(n0 c0:Nat)(f0:Nat→Source)(a1:Option Addr)(n1 c1:Nat)(f1:Nat→Target)(w:World)(hn0:n0≤1048576)(hn1:n1≤1048576)(hv0:SlSource w a0 n0 f0)(hv1:SlTarget w a1 n1 f1)(hm:∀ i,i<n1→FitsTarget (f1 i)) :
  Calls Tryz.prog 8 #[.agg #[.slice a0 n0 c0,.slice a1 n1 c1]] w fun e w'=>∃ g0 g1,e=.returned (.agg #[.slice (some ⟨g0,0,none⟩) n0 n0,.slice (some ⟨g1,0,none⟩) n1 n1])∧OwnSource w' g0 n0 n0 f0∧w.heap.size≤g0∧OwnTarget2 w' g1 n1 n1 w'.heap.size f1∧g0<g1∧Below w.heap.size w w':=by
 have HV0:=hide hv0
 have HV1:=hide hv1
 have HM:=hide hm
 clear hv0 hv1 hm
 have A0:=hide ((((Below.refl w.heap.size w).alloc lr (.cells #[.slice a0 n0 c0,.slice a1 n1 c1] 25)).alloc (by simp) (.cells #[.slice none 0 0,.slice none 0 0] 34)).alloc (by first | (simp;omega) | simp) (.cells #[.slice none 0 0,.slice none 0 0] 34))
 go_enter Tryz.func8,Tryz.ntmps8
 go_wp2_with fail
 refine (toSourceS_anyO a0 n0 c0 f0 _ hn0 (HV0.out.below A0.out lr)).mono ?_
 rintro e w1 ⟨g0,rfl,hR0,hg0,hB1⟩
 have R0:=hide hR0
 obtain ⟨hc1,hz1⟩:=bcell hB1
 have B1:=hide (A0.out.trans (hB1.mono A0.out.size))
 have hs1:w.heap.size+1+1<w1.heap.size:=by have:=hB1.size;simp at this;omega
 have hu1:w.heap.size+1<w1.heap.size:=by omega
 have ht1:w.heap.size<w1.heap.size:=by omega
 have D1:=hide hB1
 clear hR0 hB1
 simp at hg0
 have hgl:g0<w1.heap.size:=R0.out.lt
 go_wp2_with fail
 have A1:=hide (B1.out.setCell (p:=⟨w.heap.size+1+1,0,none⟩) (by first | (simp;omega) | simp) (.slice (some ⟨g0,0,none⟩) n0 n0))
 refine (toTargetS_anyO a1 n1 c1 f1 _ hn1 (HV1.out.below A1.out lr) HM.out).mono ?_
 rintro e w2 ⟨g1,rfl,hR1,hg1,hB2⟩
 have R1:=hide hR1
 obtain ⟨hc2,hz2⟩:=bcell hB2
 have B2:=hide (A1.out.trans (hB2.mono A1.out.size))
 have hs2:w.heap.size+1+1<w2.heap.size:=by have:=hB2.size;simp at this;omega
 have hu2:w.heap.size+1<w2.heap.size:=by omega
 have ht2:w.heap.size<w2.heap.size:=by omega
 have D2:=hide hB2
 clear hR1 hB2
 simp at hg1
 have q0:w2.cell? ⟨w.heap.size+1,0,none⟩=some (.slice none 0 0):=by
  rw [D2.out.cell (p:=⟨w.heap.size+1,0,none⟩) (by first | (simp;omega) | simp),cell_far _ _ _ _ (by simp)]
  rw [D1.out.cell (p:=⟨w.heap.size+1,0,none⟩) (by first | (simp;omega) | simp)]
  simp [go_sem]
 have q1:w2.cell? ⟨w.heap.size+1,1,none⟩=some (.slice none 0 0):=by
  rw [D2.out.cell (p:=⟨w.heap.size+1,1,none⟩) (by first | (simp;omega) | simp),cell_far _ _ _ _ (by simp)]
  rw [D1.out.cell (p:=⟨w.heap.size+1,1,none⟩) (by first | (simp;omega) | simp)]
  simp [go_sem]
 go_wp2
 refine bodyPost_ret (v:=.agg #[.slice (some ⟨g0,0,none⟩) n0 n0,.slice (some ⟨g1,0,none⟩) n1 n1]) (by simp [results,Tryz.results8,go_sem,q0,q1]) rfl ⟨g0,g1,rfl,?_,by omega,?_,by omega,?_⟩
 ·exact ((((R0.out.setOther _ (by first | (simp;omega) | simp) _).kept D2.out lr).setOther _ (by first | (simp;omega) | simp) _).setOther _ (by first | (simp;omega) | simp) _).setOther _ (by first | (simp;omega) | simp) _
 ·exact own2_up (((R1.out.setOther _ (by first | (simp;omega) | simp) _).setOther _ (by first | (simp;omega) | simp) _).setOther _ (by first | (simp;omega) | simp) _) (by simp)
 ·exact ((B2.out.setCell (by first | (simp;omega) | simp) _).setCell (by first | (simp;omega) | simp) _).setCell (by first | (simp;omega) | simp) _
def markIns (k0:Nat)(j:Nat):Value:=if j % 3=0 then .int .i64 ((k0:Int)+j) else if j % 3=1 then .string (mkT ((k0:Int)+j)) else .int .i64 ((k0:Int)+j)
theorem markIns_0 {k0 k q:Nat}(h:q=k0+k*3):markIns k0 (k*3)=.int .i64 ((q:Int)):=by
 have e:(k0:Int)+((k*3:Nat):Int)=(q:Int):=by omega
 unfold markIns
 rw [if_pos (by omega),e]
theorem markIns_1 {k0 k q:Nat}(h:q=k0+k*3):markIns k0 (k*3+1)=.string (mkT ((q:Int)+1)):=by
 have e:(k0:Int)+((k*3+1:Nat):Int)=(q:Int)+1:=by omega
 unfold markIns
 rw [if_neg (by omega),if_pos (by omega),e]
theorem markIns_2 {k0 k q:Nat}(h:q=k0+k*3):markIns k0 (k*3+2)=.int .i64 ((q:Int)+1+1):=by
 have e:(k0:Int)+((k*3+2:Nat):Int)=(q:Int)+1+1:=by omega
 unfold markIns
 rw [if_neg (by omega),if_neg (by omega),e]
theorem markInsS_row (b off n cap k0:Nat)(F:Nat→Value)(w:World)(hn:(n:Int)≤1048576)(h1:1≤(k0:Int))(h2:(k0:Int)≤1152921504606846976)(hC:Cells w b off (n*3) F) :
  Calls Tryz.prog 100 #[.slice (some ⟨b,off,none⟩) n cap,.int .i64 k0] w fun e w'=>e=.returned (.int .i64 ((k0+n*3:Nat):Int))∧Cells w' b off (n*3) (markIns k0)∧Within b (b+1) w w':=by
 have HC:=hide hC
 clear hC
 go_enter Tryz.func100,Tryz.ntmps100
 go_wp2
 go_loopw [1,5] (fun v i wr=>∃ (k q:Nat) (F:Nat→Value),k≤n∧Hid (q=k0+k*3)∧i=.int .i64 k∧v=.int .i64 q∧Hid (Cells wr b off (n*3) F)∧Hid (∀ j,j<k*3→F j=markIns k0 j)∧Hid (Within b (b+1) w wr)) (fun _ i _=>n - (intOf i).toNat)
 case atStart=>exact ⟨0,k0,F,by omega,by show k0=_;omega,rfl,rfl,HC.out,fun j hj=>by omega,Within.refl _ _ _⟩
 case round =>
  obtain ⟨k,q,F,hk,HQ,rfl,rfl,HC0,HM,HW0⟩:=hrel
  have hq1:1≤(q:Int):=by have:=HQ.out;omega
  have hq2:(q:Int)≤1152921504610000000:=by have:=HQ.out;omega
  by_cases hlt:k<n
  ·have hkk:k*3+3≤n*3:=by omega
   obtain ⟨c0,z0⟩:=HC0.out.at (off+k*3) (k*3) (by omega) (by omega)
   obtain ⟨c1,z1⟩:=HC0.out.at (off+k*3+1) (k*3+1) (by omega) (by omega)
   obtain ⟨c2,z2⟩:=HC0.out.at (off+k*3+2) (k*3+2) (by omega) (by omega)
   have HS0:=hide (HC0.out.setAt (off+k*3) (k*3) (by omega) (by omega) (.int .i64 ((q:Int))))
   have HX0:=hide (HW0.out.setCell (p:=⟨b,off+k*3,none⟩) lr (Nat.lt_succ_self _) (.int .i64 ((q:Int))))
   go_wp2_with fail
   clear c0 z0 c1 z1 c2 z2
   generalize (wr.setCell ⟨b,off+k*3,none⟩ (.int .i64 ((q:Int))))=v1 at HS0 HX0 ⊢
   refine (markText_int ((q:Int)+1) _ (by omega) (by omega)).mono ?_
   rintro e w1 ⟨rfl,hB⟩
   have HC1:=hide (HS0.out.below hB HS0.out.1)
   have HW1:=hide (HX0.out.below hB lr)
   clear hB
   obtain ⟨c1,z1⟩:=HC1.out.at (off+k*3+1) (k*3+1) (by omega) (by omega)
   obtain ⟨c2,z2⟩:=HC1.out.at (off+k*3+2) (k*3+2) (by omega) (by omega)
   have HS1:=hide (HC1.out.setAt (off+k*3+1) (k*3+1) (by omega) (by omega) (.string (mkT ((q:Int)+1))))
   have HX1:=hide (HW1.out.setCell (p:=⟨b,off+k*3+1,none⟩) lr (Nat.lt_succ_self _) (.string (mkT ((q:Int)+1))))
   have HS2:=hide (HS1.out.setAt (off+k*3+2) (k*3+2) (by omega) (by omega) (.int .i64 ((q:Int)+2)))
   have HX2:=hide (HX1.out.setCell (p:=⟨b,off+k*3+2,none⟩) lr (Nat.lt_succ_self _) (.int .i64 ((q:Int)+2)))
   go_wp2
   refine ⟨⟨k+1,q+3,_,by omega,by show q+3=k0+(k+1)*3;have:=HQ.out;omega,by go_num,by go_num,HS2.out,?_,HX2.out⟩,by simp [intOf];omega⟩
   intro j hj
   rcases (show j<k*3∨j=k*3∨j=k*3+1∨j=k*3+2 by omega) with h | rfl | rfl | rfl
   ·rw [if_neg (by omega),if_neg (by omega),if_neg (by omega),HM.out j h]
   ·rw [if_neg (by omega),if_neg (by omega),if_pos rfl,markIns_0 HQ.out]
   ·rw [if_neg (by omega),if_pos rfl,markIns_1 HQ.out]
   ·rw [if_pos rfl,markIns_2 HQ.out]
    rw [show (q:Int)+2=(q:Int)+1+1 by omega]
  ·have e:k=n:=by omega
   subst e
   have hv:(q:Int)=((k0+k*3:Nat):Int):=by rw [HQ.out]
   have HV:=hide hv
   clear hv
   go_wp2
   go_ret
   exact ⟨by show Ending.returned (.int .i64 (q:Int))=_;rw [HV.out],HC0.out.congr HM.out,HW0.out⟩
theorem markInsS_nil (a:Option Addr)(cap k0:Nat)(w:World):Calls Tryz.prog 100 #[.slice a 0 cap,.int .i64 k0] w fun e w'=>e=.returned (.int .i64 (k0:Int))∧w'=w:=by
 go_enter Tryz.func100,Tryz.ntmps100
 go_wp2
 go_loop [1,5] (fun v i=>v=.int .i64 k0∧i=.int .i64 0) (fun _ _=>0)
 case atStart=>exact ⟨rfl,rfl⟩
 case round =>
  obtain ⟨rfl,rfl⟩:=hrel
  go_wp2
  go_ret
  exact ⟨rfl,rfl⟩
theorem heldInsS_nil (a:Option Addr)(cap k0:Nat)(w:World):Calls Tryz.prog 105 #[.slice a 0 cap,.int .i64 k0] w fun e w'=>e=.returned (.int .i64 (k0:Int))∧w'=w:=by
 go_enter Tryz.func105,Tryz.ntmps105
 go_wp2
 go_loop [1,5] (fun v i=>v=.int .i64 k0∧i=.int .i64 0) (fun _ _=>0)
 case atStart=>exact ⟨rfl,rfl⟩
 case round =>
  obtain ⟨rfl,rfl⟩:=hrel
  go_wp2
  go_ret
  exact ⟨rfl,rfl⟩
theorem heldInsS_row (b off n cap k0:Nat)(w:World)(hn:(n:Int)≤1048576)(h1:1≤(k0:Int))(h2:(k0:Int)≤1152921504606846976)(hC:Cells w b off (n*3) (markIns k0)) :
  Calls Tryz.prog 105 #[.slice (some ⟨b,off,none⟩) n cap,.int .i64 k0] w fun e w'=>e=.returned (.int .i64 ((k0+n*3:Nat):Int))∧Below w.heap.size w w':=by
 have HC:=hide hC
 have hb:b<w.heap.size:=hC.1
 clear hC
 go_enter Tryz.func105,Tryz.ntmps105
 go_wp2
 go_loopw [1,5] (fun v i wr=>∃ k q:Nat,k≤n∧Hid (q=k0+k*3)∧i=.int .i64 k∧v=.int .i64 q∧Hid (Below w.heap.size w wr)) (fun _ i _=>n - (intOf i).toNat)
 case atStart=>exact ⟨0,k0,by omega,by show k0=_;omega,rfl,rfl,Below.refl _ _⟩
 case round =>
  obtain ⟨k,q,hk,HQ,rfl,rfl,HB0⟩:=hrel
  have hq1:1≤(q:Int):=by have:=HQ.out;omega
  have hq2:(q:Int)≤1152921504610000000:=by have:=HQ.out;omega
  have hb0:b<wr.heap.size:=Nat.lt_of_lt_of_le hb HB0.out.size
  have H0:=hide (HC.out.below HB0.out hb)
  by_cases hlt:k<n
  ·have hkk:k*3+3≤n*3:=by omega
   have c0:wr.cell? ⟨b,off+k*3,none⟩=some (.int .i64 ((q:Int))):=by have:=(H0.out.at (off+k*3) (k*3) (by omega) (by omega)).1;rw [markIns_0 HQ.out] at this;exact this
   have c1:wr.cell? ⟨b,off+k*3+1,none⟩=some (.string (mkT ((q:Int)+1))):=by have:=(H0.out.at (off+k*3+1) (k*3+1) (by omega) (by omega)).1;rw [markIns_1 HQ.out] at this;exact this
   have c2:wr.cell? ⟨b,off+k*3+2,none⟩=some (.int .i64 ((q:Int)+2)):=by have:=(H0.out.at (off+k*3+2) (k*3+2) (by omega) (by omega)).1;rw [markIns_2 HQ.out] at this;rw [show (q:Int)+1+1=(q:Int)+2 by omega] at this;exact this
   go_wp2_with fail
   go_region_with (go_at_call 99;refine (markText_int ((q:Int)+1) _ (by omega) (by omega)).mono ?_;rintro e w1 ⟨rfl,hB⟩;have D1:Hid (Below wr.heap.size wr w1):=⟨hB.os,hB.tape,hB.output,hB.size,hB.block⟩;have HB1:=hide (HB0.out.trans (D1.out.mono HB0.out.size));have H1:=hide (H0.out.below D1.out hb0);have hb1:b<w1.heap.size:=Nat.lt_of_lt_of_le hb0 D1.out.size;have d1_1:=(D1.out.cell (p:=⟨b,off+k*3+1,none⟩) hb0).trans c1;clear hB D1)
   all_goals
    clear c0 c1 c2 d1_1
    have c2:w1.cell? ⟨b,off+k*3+2,none⟩=some (.int .i64 ((q:Int)+2)):=by have:=(H1.out.at (off+k*3+2) (k*3+2) (by omega) (by omega)).1;rw [markIns_2 HQ.out] at this;rw [show (q:Int)+1+1=(q:Int)+2 by omega] at this;exact this
    go_wp2
    exact ⟨⟨k+1,q+3,by omega,by show q+3=k0+(k+1)*3;have:=HQ.out;omega,by go_num,by go_num,HB1.out⟩,by simp [intOf];omega⟩
  ·have e:k=n:=by omega
   subst e
   have hv:(q:Int)=((k0+k*3:Nat):Int):=by rw [HQ.out]
   have HV:=hide hv
   clear hv
   go_wp2
   go_ret
   exact ⟨by show Ending.returned (.int .i64 (q:Int))=_;rw [HV.out],HB0.out⟩
structure Touch (P:Nat→Prop)(w w':World):Prop where
 os:w'.os=w.os
 tape:w'.tape=w.tape
 output:w'.output=w.output
 size:w.heap.size≤w'.heap.size
 block:∀ k,k<w.heap.size→¬ P k→w'.heap[k]?=w.heap[k]?
theorem Touch.refl (P:Nat→Prop)(w:World):Touch P w w:=⟨rfl,rfl,rfl,Nat.le_refl _,fun _ _ _=>rfl⟩
theorem Touch.trans {P:Nat→Prop}{a b c:World}(h:Touch P a b)(k:Touch P b c):Touch P a c :=
 ⟨k.os.trans h.os,k.tape.trans h.tape,k.output.trans h.output,Nat.le_trans h.size k.size,fun i hi ho=>(k.block i (Nat.lt_of_lt_of_le hi h.size) ho).trans (h.block i hi ho)⟩
theorem Touch.of_below {P:Nat→Prop}{B:Nat}{w w':World}(h:Below B w w')(hB:w.heap.size≤B):Touch P w w' :=
 ⟨h.os,h.tape,h.output,h.size,fun i hi _=>h.block i (Nat.lt_of_lt_of_le hi hB)⟩
theorem Touch.below {P:Nat→Prop}{B:Nat}{a w w':World}(h:Touch P a w)(hb:Below B w w')(hB:w.heap.size≤B):Touch P a w':=h.trans (Touch.of_below hb hB)
theorem Touch.setCell {P:Nat→Prop}{a w:World}(h:Touch P a w){p:Addr}(hp:P p.block)(v:Value):Touch P a (w.setCell p v) :=
 h.trans ⟨rfl,rfl,rfl,by simp [World.setCell],fun k _ ho=>Below.heap_setCell _ _ _ _ (fun e=>ho (e ▸ hp))⟩
theorem Touch.of_within {P:Nat→Prop}{b:Nat}{w w':World}(h:Within b (b+1) w w')(hb:P b):Touch P w w' :=
 ⟨h.os,h.tape,h.output,h.size,fun k hk ho=>h.block k hk (by rcases Nat.lt_trichotomy k b with c | c | c;exact .inl c;exact absurd (c ▸ hb) ho;exact .inr c)⟩
theorem Touch.mono {P Q:Nat→Prop}{w w':World}(h:Touch P w w')(hPQ:∀ k,P k→Q k):Touch Q w w' :=
 ⟨h.os,h.tape,h.output,h.size,fun k hk ho=>h.block k hk (fun hp=>ho (hPQ k hp))⟩
theorem Cells.touch {w w':World}{b off m:Nat}{F:Nat→Value}{P:Nat→Prop}(h:Cells w b off m F)(hw:Touch P w w')(hb:¬ P b):Cells w' b off m F:=by
 have e:=hw.block b h.1 hb
 exact ⟨Nat.lt_of_lt_of_le h.1 hw.size,fun j hj=>⟨(World.cell?_of_block (a:=⟨b,off+j,none⟩) e).trans (h.2 j hj).1,(World.frozen?_of_block (a:=⟨b,off+j,none⟩) e).trans (h.2 j hj).2⟩⟩
def Room (w:World)(p:Option Addr)(n b m:Nat):Prop:=n=0∨(p=some ⟨b,0,none⟩∧∃ G,Cells w b 0 m G)
theorem Touch.toBelow {P:Nat→Prop}{w w':World}{B:Nat}(h:Touch P w w')(hP:∀ x,P x→B≤x)(hB:B≤w.heap.size):Below B w w' :=
 ⟨h.os,h.tape,h.output,h.size,fun k hk=>h.block k (by omega) (fun hp=>by have:=hP k hp;omega)⟩
theorem Touch.cell {P:Nat→Prop}{w w':World}(h:Touch P w w'){p:Addr}(hl:p.block<w.heap.size)(hp:¬ P p.block):w'.cell? p=w.cell? p:=World.cell?_of_block (h.block p.block hl hp)
def kAt (m:Nat→Nat)(k0:Nat):Nat→Nat
 | 0=>k0
 | i+1=>kAt m k0 i+1+m i*3
theorem kAt_le {m:Nat→Nat}{k0 n:Nat}(hm:∀ i,i<n→m i≤1048576):kAt m k0 n≤k0+n*3145729:=by
 induction n with
 | zero=>simp [kAt]
 | succ j ih =>
  have h1:=ih (fun i hi=>hm i (by omega))
  have h2:=hm j (by omega)
  simp only [kAt]
  omega
theorem kAt_ge {m:Nat→Nat}{k0 n:Nat}:k0≤kAt m k0 n:=by
 induction n with
 | zero=>exact Nat.le_refl _
 | succ j ih =>
  simp only [kAt]
  omega
structure TCells (w:World)(T off n:Nat)(B m:Nat→Nat):Prop where
 row:∃ F,Cells w T off (n*2) F∧∀ i,i<n→∃ cap,F (i*2+1)=.slice (some ⟨B i,0,none⟩) (m i) cap
 act:∀ i,i<n→∃ G,Cells w (B i) 0 (m i*3) G
 apart:∀ i,i<n→B i≠T
 each:∀ i j,i<n→j<n→i≠j→B i≠B j
structure TMarked (w:World)(T off n:Nat)(B m:Nat→Nat)(k0:Nat):Prop where
 row:∃ F,Cells w T off (n*2) F∧∀ i,i<n→F (i*2)=.string (mkT ((kAt m k0 i:Nat):Int))∧∃ cap,F (i*2+1)=.slice (some ⟨B i,0,none⟩) (m i) cap
 act:∀ i,i<n→Cells w (B i) 0 (m i*3) (markIns (kAt m k0 i+1))
theorem TMarked.below {w w':World}{T off n k0 Z:Nat}{B m:Nat→Nat}(h:TMarked w T off n B m k0)(hb:Below Z w w')(hZ:w.heap.size≤Z):TMarked w' T off n B m k0:=by
 obtain ⟨⟨F,hF,h1⟩,h2⟩:=h
 exact ⟨⟨F,hF.below hb (Nat.lt_of_lt_of_le hF.1 hZ),h1⟩,fun i hi=>(h2 i hi).below hb (Nat.lt_of_lt_of_le (h2 i hi).1 hZ)⟩
theorem markTargetS_row (T off n cap k0:Nat)(B m:Nat→Nat)(w:World)(hn:(n:Int)≤1048576)(hm:∀ i,i<n→m i≤1048576)(h1:1≤(k0:Int))(h2:(k0:Int)≤1125899906842624)(hC:TCells w T off n B m) :
  Calls Tryz.prog 44 #[.slice (some ⟨T,off,none⟩) n cap,.int .i64 k0] w fun e w'=>e=.returned (.int .i64 ((kAt m k0 n:Nat):Int))∧TMarked w' T off n B m k0∧Touch (fun x=>x=T∨∃ i,i<n∧x=B i) w w':=by
 have HC:=hide hC
 have HM:=hide hm
 clear hC hm
 go_enter Tryz.func44,Tryz.ntmps44
 go_wp2
 go_loopw [1,5] (fun v i wr=>∃ (k q:Nat) (F:Nat→Value),k≤n∧Hid (q=kAt m k0 k)∧i=.int .i64 k∧v=.int .i64 q∧Hid (Cells wr T off (n*2) F)∧Hid (∀ i,i<n→∃ cap,F (i*2+1)=.slice (some ⟨B i,0,none⟩) (m i) cap)∧Hid (∀ i,i<k→F (i*2)=.string (mkT ((kAt m k0 i:Nat):Int)))∧Hid (∀ i,i<k→Cells wr (B i) 0 (m i*3) (markIns (kAt m k0 i+1)))∧Hid (∀ i,k≤i→i<n→∃ G,Cells wr (B i) 0 (m i*3) G)∧Hid (Touch (fun x=>x=T∨∃ i,i<n∧x=B i) w wr)) (fun _ i _=>n - (intOf i).toNat)
 case atStart =>
  obtain ⟨F,hF,hs⟩:=HC.out.row
  exact ⟨0,k0,F,by omega,rfl,rfl,rfl,hF,hs,fun i hi=>absurd hi (Nat.not_lt_zero _),fun i hi=>absurd hi (Nat.not_lt_zero _),fun i _ hi=>HC.out.act i hi,Touch.refl _ _⟩
 case round =>
  obtain ⟨k,q,F,hk,HQ,rfl,rfl,HC0,HSl,HN,HD,HG,HW0⟩:=hrel
  have hq1:1≤(q:Int):=by have:=HQ.out;have:=kAt_ge (m:=m) (k0:=k0) (n:=k);omega
  have hq2:(q:Int)≤1152921504600000000:=by have:=HQ.out;have:=kAt_le (m:=m) (k0:=k0) (n:=k) (fun i hi=>HM.out i (by omega));omega
  by_cases hlt:k<n
  ·have hkk:k*2+2≤n*2:=by omega
   have hmk:=HM.out k hlt
   obtain ⟨cs,hcs⟩:=HSl.out k hlt
   obtain ⟨c0,z0⟩:=HC0.out.at (off+k*2) (k*2) (by omega) (by omega)
   go_wp2_with fail
   refine (markText_int (q:Int) _ (by omega) (by omega)).mono ?_
   rintro e w1 ⟨rfl,hB1⟩
   have HC1:=hide (HC0.out.below hB1 HC0.out.1)
   have HW1:=hide (HW0.out.below hB1 lr)
   have HD1:Hid (∀ i,i<k→Cells w1 (B i) 0 (m i*3) (markIns (kAt m k0 i+1))):=fun i hi=>(HD.out i hi).below hB1 (HD.out i hi).1
   have HG1:Hid (∀ i,k≤i→i<n→∃ G,Cells w1 (B i) 0 (m i*3) G):=fun i h1 h2=>by
    obtain ⟨G,hG⟩:=HG.out i h1 h2
    exact ⟨G,hG.below hB1 hG.1⟩
   clear hB1 c0 z0
   obtain ⟨c0,z0⟩:=HC1.out.at (off+k*2) (k*2) (by omega) (by omega)
   have HS0:=hide (HC1.out.setAt (off+k*2) (k*2) (by omega) (by omega) (.string (mkT (q:Int))))
   have HX0:=hide (HW1.out.setCell (p:=⟨T,off+k*2,none⟩) (.inl rfl) (.string (mkT (q:Int))))
   have WS:Hid (Within T (T+1) w1 (w1.setCell ⟨T,off+k*2,none⟩ (.string (mkT (q:Int))))):=(Within.refl T (T+1) w1).setCell (p:=⟨T,off+k*2,none⟩) lr (Nat.lt_succ_self _) _
   have c1:(w1.setCell ⟨T,off+k*2,none⟩ (.string (mkT (q:Int)))).cell? ⟨T,off+k*2+1,none⟩=some (.slice (some ⟨B k,0,none⟩) (m k) cs):=by
    have:=(HS0.out.at (off+k*2+1) (k*2+1) (by omega) (by omega)).1
    rw [if_neg (by omega),hcs] at this
    exact this
   have HD2:Hid (∀ i,i<k→Cells (w1.setCell ⟨T,off+k*2,none⟩ (.string (mkT (q:Int)))) (B i) 0 (m i*3) (markIns (kAt m k0 i+1))):=fun i hi=>(HD1.out i hi).within WS.out (by have:=HC.out.apart i (by omega);omega)
   have HG2:Hid (∀ i,k≤i→i<n→∃ G,Cells (w1.setCell ⟨T,off+k*2,none⟩ (.string (mkT (q:Int)))) (B i) 0 (m i*3) G):=fun i h1 h2=>by
    obtain ⟨G,hG⟩:=HG1.out i h1 h2
    exact ⟨G,hG.within WS.out (by have:=HC.out.apart i h2;omega)⟩
   obtain ⟨G,hG⟩:=HG2.out k lr hlt
   have GK:=hide hG
   clear hG HC1 HW1 HD1 HG1 hcs
   go_wp2_with fail
   generalize w1.setCell ⟨T,off+k*2,none⟩ (.string (mkT (q:Int)))=v1 at HS0 HX0 c1 HD2 HG2 GK ⊢
   clear WS
   refine (markInsS_row (B k) 0 (m k) cs (q+1) G _ (by omega) (by omega) (by omega) GK.out).mono ?_
   rintro e w2 ⟨rfl,hM2,hW2⟩
   have HC3:=hide (HS0.out.within hW2 (by have:=HC.out.apart k hlt;omega))
   have HW3:=hide (HX0.out.trans (Touch.of_within hW2 (.inr ⟨k,hlt,rfl⟩)))
   have HM2:=hide hM2
   have HD3:Hid (∀ i,i<k→Cells w2 (B i) 0 (m i*3) (markIns (kAt m k0 i+1))):=fun i hi=>(HD2.out i hi).within hW2 (by have:=HC.out.each i k (by omega) hlt (by omega);omega)
   have HG3:Hid (∀ i,k+1≤i→i<n→∃ G,Cells w2 (B i) 0 (m i*3) G):=fun i h1 h2=>by
    obtain ⟨G',hG'⟩:=HG2.out i (by omega) h2
    exact ⟨G',hG'.within hW2 (by have:=HC.out.each i k h2 hlt (by omega);omega)⟩
   have HE:Hid (kAt m k0 (k+1)=q+1+m k*3):=by show kAt m k0 k+1+m k*3=_;rw [HQ.out]
   clear hM2 hW2 c1 c0 z0
   go_wp2
   refine ⟨⟨k+1,q+1+m k*3,_,by omega,HE.out.symm,by go_num,rfl,HC3.out,?_,?_,?_,HG3.out,HW3.out⟩,by simp [intOf];omega⟩
   ·intro i hi
    obtain ⟨cap',hc'⟩:=HSl.out i hi
    exact ⟨cap',by rw [if_neg (by omega)];exact hc'⟩
   ·intro i hi
    by_cases e:i=k
    ·subst e
     rw [if_pos rfl,HQ.out]
    ·rw [if_neg (by omega)]
     exact HN.out i (by omega)
   ·intro i hi
    by_cases e:i=k
    ·subst e
     have:=HM2.out
     rw [HQ.out] at this
     exact this
    ·exact HD3.out i (by omega)
  ·have e:k=n:=by omega
   subst e
   have HV:Hid ((q:Int)=((kAt m k0 k:Nat):Int)):=by show (q:Int)=_;rw [HQ.out]
   go_wp2
   go_ret
   exact ⟨by show Ending.returned (.int .i64 (q:Int))=_;rw [HV.out],⟨⟨F,HC0.out,fun i hi=>⟨HN.out i hi,HSl.out i hi⟩⟩,HD.out⟩,HW0.out⟩
theorem markTargetS_nil (a:Option Addr)(cap k0:Nat)(w:World):Calls Tryz.prog 44 #[.slice a 0 cap,.int .i64 k0] w fun e w'=>e=.returned (.int .i64 (k0:Int))∧w'=w:=by
 go_enter Tryz.func44,Tryz.ntmps44
 go_wp2
 go_loop [1,5] (fun v i=>v=.int .i64 k0∧i=.int .i64 0) (fun _ _=>0)
 case atStart=>exact ⟨rfl,rfl⟩
 case round =>
  obtain ⟨rfl,rfl⟩:=hrel
  go_wp2
  go_ret
  exact ⟨rfl,rfl⟩
def markSource (k0:Nat)(j:Nat):Value:=if j % 2=0 then .string (mkT ((k0:Int)+j)) else .string (mkT ((k0:Int)+j))
theorem markSource_0 {k0 k q:Nat}(h:q=k0+k*2):markSource k0 (k*2)=.string (mkT ((q:Int))):=by
 have e:(k0:Int)+((k*2:Nat):Int)=(q:Int):=by omega
 unfold markSource
 rw [if_pos (by omega),e]
theorem markSource_1 {k0 k q:Nat}(h:q=k0+k*2):markSource k0 (k*2+1)=.string (mkT ((q:Int)+1)):=by
 have e:(k0:Int)+((k*2+1:Nat):Int)=(q:Int)+1:=by omega
 unfold markSource
 rw [if_neg (by omega),e]
theorem markSourceS_row (b off n cap k0:Nat)(F:Nat→Value)(w:World)(hn:(n:Int)≤1048576)(h1:1≤(k0:Int))(h2:(k0:Int)≤1152921504606846976)(hC:Cells w b off (n*2) F) :
  Calls Tryz.prog 43 #[.slice (some ⟨b,off,none⟩) n cap,.int .i64 k0] w fun e w'=>e=.returned (.int .i64 ((k0+n*2:Nat):Int))∧Cells w' b off (n*2) (markSource k0)∧Within b (b+1) w w':=by
 have HC:=hide hC
 clear hC
 go_enter Tryz.func43,Tryz.ntmps43
 go_wp2
 go_loopw [1,5] (fun v i wr=>∃ (k q:Nat) (F:Nat→Value),k≤n∧Hid (q=k0+k*2)∧i=.int .i64 k∧v=.int .i64 q∧Hid (Cells wr b off (n*2) F)∧Hid (∀ j,j<k*2→F j=markSource k0 j)∧Hid (Within b (b+1) w wr)) (fun _ i _=>n - (intOf i).toNat)
 case atStart=>exact ⟨0,k0,F,by omega,by show k0=_;omega,rfl,rfl,HC.out,fun j hj=>by omega,Within.refl _ _ _⟩
 case round =>
  obtain ⟨k,q,F,hk,HQ,rfl,rfl,HC0,HM,HW0⟩:=hrel
  have hq1:1≤(q:Int):=by have:=HQ.out;omega
  have hq2:(q:Int)≤1152921504610000000:=by have:=HQ.out;omega
  by_cases hlt:k<n
  ·have hkk:k*2+2≤n*2:=by omega
   obtain ⟨c0,z0⟩:=HC0.out.at (off+k*2) (k*2) (by omega) (by omega)
   obtain ⟨c1,z1⟩:=HC0.out.at (off+k*2+1) (k*2+1) (by omega) (by omega)
   go_wp2_with fail
   refine (markText_int ((q:Int)) _ (by omega) (by omega)).mono ?_
   rintro e w1 ⟨rfl,hB⟩
   have HC1:=hide (HC0.out.below hB HC0.out.1)
   have HW1:=hide (HW0.out.below hB lr)
   clear hB c0 z0 c1 z1
   obtain ⟨c0,z0⟩:=HC1.out.at (off+k*2) (k*2) (by omega) (by omega)
   obtain ⟨c1,z1⟩:=HC1.out.at (off+k*2+1) (k*2+1) (by omega) (by omega)
   have HS0:=hide (HC1.out.setAt (off+k*2) (k*2) (by omega) (by omega) (.string (mkT ((q:Int)))))
   have HX0:=hide (HW1.out.setCell (p:=⟨b,off+k*2,none⟩) lr (Nat.lt_succ_self _) (.string (mkT ((q:Int)))))
   go_wp2_with fail
   clear c0 z0 c1 z1
   generalize (w1.setCell ⟨b,off+k*2,none⟩ (.string (mkT ((q:Int)))))=v2 at HS0 HX0 ⊢
   refine (markText_int ((q:Int)+1) _ (by omega) (by omega)).mono ?_
   rintro e w2 ⟨rfl,hB⟩
   have HC2:=hide (HS0.out.below hB HS0.out.1)
   have HW2:=hide (HX0.out.below hB lr)
   clear hB
   obtain ⟨c1,z1⟩:=HC2.out.at (off+k*2+1) (k*2+1) (by omega) (by omega)
   have HS1:=hide (HC2.out.setAt (off+k*2+1) (k*2+1) (by omega) (by omega) (.string (mkT ((q:Int)+1))))
   have HX1:=hide (HW2.out.setCell (p:=⟨b,off+k*2+1,none⟩) lr (Nat.lt_succ_self _) (.string (mkT ((q:Int)+1))))
   go_wp2
   refine ⟨⟨k+1,q+2,_,by omega,by show q+2=k0+(k+1)*2;have:=HQ.out;omega,by go_num,by go_num,HS1.out,?_,HX1.out⟩,by simp [intOf];omega⟩
   intro j hj
   rcases (show j<k*2∨j=k*2∨j=k*2+1 by omega) with h | rfl | rfl
   ·rw [if_neg (by omega),if_neg (by omega),HM.out j h]
   ·rw [if_neg (by omega),if_pos rfl,markSource_0 HQ.out]
   ·rw [if_pos rfl,markSource_1 HQ.out]
  ·have e:k=n:=by omega
   subst e
   have hv:(q:Int)=((k0+k*2:Nat):Int):=by rw [HQ.out]
   have HV:=hide hv
   clear hv
   go_wp2
   go_ret
   exact ⟨by show Ending.returned (.int .i64 (q:Int))=_;rw [HV.out],HC0.out.congr HM.out,HW0.out⟩
theorem markSourceS_nil (a:Option Addr)(cap k0:Nat)(w:World):Calls Tryz.prog 43 #[.slice a 0 cap,.int .i64 k0] w fun e w'=>e=.returned (.int .i64 (k0:Int))∧w'=w:=by
 go_enter Tryz.func43,Tryz.ntmps43
 go_wp2
 go_loop [1,5] (fun v i=>v=.int .i64 k0∧i=.int .i64 0) (fun _ _=>0)
 case atStart=>exact ⟨rfl,rfl⟩
 case round =>
  obtain ⟨rfl,rfl⟩:=hrel
  go_wp2
  go_ret
  exact ⟨rfl,rfl⟩
end Go.Proofs.YtfnbojfnelfnkaaGreatDoor.Vp
