import Derived.Test.YtkophfgkcijjkaaGreatDoorZZ
import Derived.Test.YtkophfgkcijjkaaGreatDoorYB
set_option maxRecDepth 1000000
set_option maxHeartbeats 2000000
namespace Go.Proofs.YtkophfgkcijjkaaGreatDoor.Vp
open RowKit
def Rep (S:Nat→ByteArray):List ByteArray→Prop
 | []=>True
 | x :: r=>S r.length=x∧Rep S r
theorem Rep.upd {S:Nat→ByteArray}{r:List ByteArray}{k:Nat}(x:ByteArray)(h:Rep S r)(hk:r.length≤k):Rep (upd S k x) r:=by
 induction r with
 | nil=>trivial
 | cons y r ih =>
  simp only [List.length_cons] at hk
  refine ⟨?_,ih h.2 (by omega)⟩
  unfold Vp.upd
  rw [if_neg (by omega)]
  exact h.1
theorem Rep.push {S:Nat→ByteArray}{r:List ByteArray}(x:ByteArray)(h:Rep S r):Rep (Vp.upd S r.length x) (x :: r) :=
 ⟨by simp [Vp.upd],h.upd x lr⟩
theorem Rep.push' {S:Nat→ByteArray}{r:List ByteArray}{x v:ByteArray}(h:Rep S r)(e:x=v):Rep (Vp.upd S r.length x) (v :: r):=e ▸ h.push x
theorem Rep.at {S:Nat→ByteArray}{r:List ByteArray}{k:Nat}(h:Rep S r)(hk:k<r.length):S k∈r:=by
 induction r with
 | nil=>simp at hk
 | cons y r ih =>
  by_cases e:k=r.length
  ·subst e;simp [h.1]
  ·exact List.mem_cons_of_mem _ (ih h.2 (by simp at hk;omega))
abbrev Res:=(List ByteArray × Nat) ⊕ (Int × ByteArray) ⊕ (Bool × ByteArray × List ByteArray)
def dV (ask:Bool)(a:ByteArray)(r:List ByteArray)(here looks:Nat):Res :=
 if au a=false then .inr (.inl (2,(cH here))) else if looks=200 then .inr (.inl (3,⟨#[]⟩)) else .inr (.inr (ask,a,r))
def bY (op n:Nat)(t:ByteArray)(here looks:Nat)(stk:List ByteArray):Res :=
 match op,stk with
 | 1,stk=>.inl ((t :: stk),(here+1))
 | 2,b :: a :: r=>if a.size+b.size≤2000 then .inl (((a++b) :: r),(here+1)) else .inr (.inl (2,(cH here)))
 | 3,a :: r=>.inl (((if n<a.size then a.extract 0 n else a) :: r),(here+1))
 | 4,a :: r=>.inl (((if n<a.size then a.extract n a.size else ⟨#[]⟩) :: r),(here+1))
 | 5,a :: r=>.inl ((dI a n :: r),(here+1))
 | 6,b :: a :: r=>.inl ((cY (b.toList == a.toList) :: r),(here+1))
 | 7,a :: r=>.inl ((a :: a :: r),(here+1))
 | 8,b :: a :: r=>.inl ((a :: b :: r),(here+1))
 | 9,_ :: r=>.inl (r,(here+1))
 | 10,stk=>.inl (stk,n)
 | 11,a :: r=>.inl (r,(if a.toList=[]∨(a.toList == [48])=true then n else here+1))
 | 12,a :: r=>dV true a r here looks
 | 13,a :: r=>dV false a r here looks
 | 14,a :: _=>.inr (.inl (1,a))
 | 15,a :: _=>.inr (.inl (0,a))
 | _,_=>.inr (.inl (0,⟨#[]⟩))
def After (m m':Mst)(res:Res):Prop:=m'.steps=m.steps∧match res with
 | .inl (stk,p)=>Rep m'.S stk∧m'.size=stk.length∧m'.place=p∧m'.looks=m.looks∧m'.t=m.t
 | .inr (.inl (c,x))=>m'.t=⟨true,c,x,false,⟨#[]⟩,m.steps⟩
 | .inr (.inr (ask,name,stk))=>Rep m'.S stk∧m'.size=stk.length∧m'.place=m.place∧m'.looks=m.looks+1∧m'.t=⟨false,0,⟨#[]⟩,ask,name,m.steps⟩
theorem MAt.bel {w w':World}{b:Nat}{cv:Value}{m:Mst}(h:MAt w b cv m)(hB:Below w.heap.size w w'):MAt w' b cv m:=h.below hB h.lt
theorem Only.bel {b:Nat}{u w w':World}(h:Only b u w)(hB:Below w.heap.size w w'):Only b u w':=h.trans (Only.of_below hB)
theorem Only.frozen {b:Nat}{w w':World}(h:Only b w w')(k o:Nat)(hk:k<w.heap.size)(hb:k≠b):w'.frozen? ⟨k,o,none⟩=w.frozen? ⟨k,o,none⟩:=World.frozen?_of_block (w:=w) (a:=⟨k,o,none⟩) (h.block k hk hb)
theorem Only.setNew {b:Nat}{w W:World}(h:Only b w W)(k o:Nat)(v:Value)(hk:w.heap.size≤k):Only b w (W.setCell ⟨k,o,none⟩ v) :=
 ⟨h.os,h.tape,h.output,by simpa [World.setCell] using h.size,fun i hi ho=>(Below.heap_setCell _ _ _ _ (by simp;omega)).trans (h.block i hi ho),fun cs t fz hb=>by
  obtain ⟨cs1,h1⟩:=h.ty cs t fz hb
  have hbl:=az hb
  exact ⟨cs1,(Below.heap_setCell _ _ _ _ (by simp;omega)).trans h1⟩⟩
theorem MAt.other {w:World}{b:Nat}{cv:Value}{m:Mst}(h:MAt w b cv m)(k o:Nat)(v:Value)(hk:k≠b):MAt (w.setCell ⟨k,o,none⟩ v) b cv m :=
 ⟨by simpa using h.1,fun j hj=>⟨(cell_far w ⟨k,o,none⟩ ⟨b,j,none⟩ v hk).trans (h.2 j hj).1,by have:=(h.2 j hj).2;simpa using this⟩⟩
theorem dh (b:Nat)(cv:Value)(m:Mst)(k:Nat)(v:ByteArray)(w:World)(hM:MAt w b cv m)(hk:m.size=k+1)(hs:k<50)(hv:m.S k=v) :
  Calls Tryz.prog 228 #[.pointer (some ⟨b,0,none⟩)] w fun e w'=>e=.returned (.string v)∧MAt w' b cv { m with size:=k }∧Only b w w':=by
 rw [← hv]
 exact gN b cv m k w hM hk hs
theorem MAt.drew {w:World}{b:Nat}{cv:Value}{m:Mst}(h:MAt w b cv m):MAt w.drew b cv m:=h.below br.drew (Nat.lt_succ_self _)
theorem MAt.al {w:World}{b:Nat}{cv:Value}{m:Mst}(h:MAt w b cv m)(o:Obj):MAt (w.alloc o) b cv m:=h.below ((Below.refl w.heap.size _).alloc lr _) h.lt
theorem xf (b:Nat)(cv:Value)(m:Mst)(n here:Nat)(t:ByteArray)(stk:List ByteArray)(w:World)(hM:MAt w b cv m)(hR:Rep m.S (stk))(hz:m.size=(stk).length)(hl:(stk).length≤50)(hp:m.place=here+1)(hl2:stk.length<50) :
  Calls Tryz.prog 206 #[.pointer (some ⟨b,0,none⟩),.agg #[.int .i64 1,.string t,.int .i64 n],.int .i64 here] w fun e w'=>e=.returned (.tuple #[])∧(∃ m',MAt w' b cv m'∧After m m' (.inl ((t :: stk),(here+1))))∧Only b w w':=by
 have HM:=ae hM
 have HR:=ae hR
 have hlt:=hM.lt
 have HZ:=ae hz
 have hi0:(w.alloc (.cells #[.int .i64 1,.string t,.int .i64 n] 176)).cell? ⟨w.heap.size,2,none⟩=some (.int .i64 n):=by simp
 have HI0:=ae hi0
 have HM0:=ae (HM.out.al (.cells #[.int .i64 1,.string t,.int .i64 n] 176))
 have HB0:=ae ((Only.refl b w).al (.cells #[.int .i64 1,.string t,.int .i64 n] 176))
 have hs0:w.heap.size<(w.alloc (.cells #[.int .i64 1,.string t,.int .i64 n] 176)).heap.size:=by simp
 clear hM hR hi0
 obtain ⟨R,hRes⟩:∃ R:Res,R=(.inl ((t :: stk),(here+1))):=⟨_,rfl⟩
 rw [← hRes]
 have HQ:=ae hRes
 clear hRes
 go_enter Tryz.func206,Tryz.ntmps206
 have HN0:=ae (Only.refl b (w.alloc (.cells #[.int .i64 1,.string t,.int .i64 n] 176)))
 go_wp2_with fail
 go_region_with (go_at_call 165;refine (cS b cv m t _ ?_ (by omega)).mono ?_;(first | exact HM0.out | exact HM0.out.drew | exact HM0.out.drew.drew | exact HM0.out.drew.drew.drew);rintro e w1 ⟨rfl,hM1,hB1⟩;have HM1:=ae hM1;have HN1:Hid (Only b (w.alloc (.cells #[.int .i64 1,.string t,.int .i64 n] 176)) w1):=Only.trans (by repeat (first | exact HN0.out | exact Only.refl _ _ | apply Only.drew)) hB1;clear hM1 hB1)
 all_goals
  go_wp2
  refine cB rfl rfl ?_
  exact ⟨rfl,⟨_,HM1.out,by rw [HQ.out];exact ⟨rfl,by rw [HZ.out];exact HR.out.push t,by simp [HZ.out],hp,rfl,rfl⟩⟩,HB0.out.trans HN1.out⟩
theorem xg (b:Nat)(cv:Value)(m:Mst)(n here:Nat)(t:ByteArray)(x y:ByteArray)(r:List ByteArray)(w:World)(hM:MAt w b cv m)(hR:Rep m.S (x :: y :: r))(hz:m.size=(x :: y :: r).length)(hl:(x :: y :: r).length≤50)(hp:m.place=here+1)(hh:here≤2000)(hP:Pow w)(hPb:2<b)(h1:x.size≤2000)(h2:y.size≤2000) :
  Calls Tryz.prog 206 #[.pointer (some ⟨b,0,none⟩),.agg #[.int .i64 2,.string t,.int .i64 n],.int .i64 here] w fun e w'=>e=.returned (.tuple #[])∧(∃ m',MAt w' b cv m'∧After m m' (if y.size+x.size≤2000 then .inl (((y++x) :: r),(here+1)) else .inr (.inl (2,(cH here)))))∧Only b w w':=by
 have HM:=ae hM
 have hx:m.S (r.length+1)=x:=hR.1
 have hy:m.S r.length=y:=hR.2.1
 have HR:=ae hR.2.2
 have hlt:=hM.lt
 simp only [List.length_cons] at hl hz
 have HZ:=ae hz
 have hi0:(w.alloc (.cells #[.int .i64 2,.string t,.int .i64 n] 176)).cell? ⟨w.heap.size,2,none⟩=some (.int .i64 n):=by simp
 have HI0:=ae hi0
 have HM0:=ae (HM.out.al (.cells #[.int .i64 2,.string t,.int .i64 n] 176))
 have HB0:=ae ((Only.refl b w).al (.cells #[.int .i64 2,.string t,.int .i64 n] 176))
 have hs0:w.heap.size<(w.alloc (.cells #[.int .i64 2,.string t,.int .i64 n] 176)).heap.size:=by simp
 clear hM hR hi0
 obtain ⟨R,hRes⟩:∃ R:Res,R=(if y.size+x.size≤2000 then .inl (((y++x) :: r),(here+1)) else .inr (.inl (2,(cH here)))):=⟨_,rfl⟩
 rw [← hRes]
 have HQ:=ae hRes
 clear hRes
 go_enter Tryz.func206,Tryz.ntmps206
 have HN0:=ae (Only.refl b (w.alloc (.cells #[.int .i64 2,.string t,.int .i64 n] 176)))
 have HP:=ae hP
 clear hP
 go_wp2_with fail
 refine (ue b cv m r.length here _ HM0.out HZ.out (by omega) hh (HP.out.low (HB0.out.below lr (Nat.le_of_lt hlt)) hPb) hPb (by rw [hy];exact h2) (by rw [hx];exact h1)).mono ?_
 rw [hx,hy]
 rintro e w1 ⟨rfl,hM1,hB1⟩
 have HM1:=ae hM1
 have HB1:=ae (HB0.out.trans hB1)
 clear hM1 hB1
 go_wp2
 refine cB rfl rfl ?_
 refine ⟨rfl,⟨_,HM1.out,?_⟩,HB1.out⟩
 rw [HQ.out]
 by_cases hs:y.size+x.size≤2000
 ·rw [if_pos hs,if_pos hs]
  exact ⟨rfl,HR.out.push _,by simp,hp,rfl,rfl⟩
 ·rw [if_neg hs,if_neg hs]
  exact ⟨rfl,rfl⟩
theorem xh (b:Nat)(cv:Value)(m:Mst)(n here:Nat)(t:ByteArray)(x:ByteArray)(r:List ByteArray)(w:World)(hM:MAt w b cv m)(hR:Rep m.S (x :: r))(hz:m.size=(x :: r).length)(hl:(x :: r).length≤50)(hp:m.place=here+1)(h1:x.size≤2000) :
  Calls Tryz.prog 206 #[.pointer (some ⟨b,0,none⟩),.agg #[.int .i64 3,.string t,.int .i64 n],.int .i64 here] w fun e w'=>e=.returned (.tuple #[])∧(∃ m',MAt w' b cv m'∧After m m' (.inl (((if n<x.size then x.extract 0 n else x) :: r),(here+1))))∧Only b w w':=by
 have HM:=ae hM
 have hx:m.S r.length=x:=hR.1
 have HR:=ae hR.2
 have hlt:=hM.lt
 simp only [List.length_cons] at hl hz
 have HZ:=ae hz
 have hi0:(w.alloc (.cells #[.int .i64 3,.string t,.int .i64 n] 176)).cell? ⟨w.heap.size,2,none⟩=some (.int .i64 n):=by simp
 have HI0:=ae hi0
 have HM0:=ae (HM.out.al (.cells #[.int .i64 3,.string t,.int .i64 n] 176))
 have HB0:=ae ((Only.refl b w).al (.cells #[.int .i64 3,.string t,.int .i64 n] 176))
 have hs0:w.heap.size<(w.alloc (.cells #[.int .i64 3,.string t,.int .i64 n] 176)).heap.size:=by simp
 clear hM hR hi0
 obtain ⟨R,hRes⟩:∃ R:Res,R=(.inl (((if n<x.size then x.extract 0 n else x) :: r),(here+1))):=⟨_,rfl⟩
 rw [← hRes]
 have HQ:=ae hRes
 clear hRes
 go_enter Tryz.func206,Tryz.ntmps206
 have HN0:=ae (Only.refl b (w.alloc (.cells #[.int .i64 3,.string t,.int .i64 n] 176)))
 go_wp2_with fail
 refine (dh b cv m r.length x _ ?_ HZ.out (by omega) hx).mono ?_
 ·exact HM0.out
 rintro e w1 ⟨rfl,hM1,hB1⟩
 have HM1:=ae hM1
 have HN1:Hid (Only b (w.alloc (.cells #[.int .i64 3,.string t,.int .i64 n] 176)) w1):=Only.trans (by repeat (first | exact HN0.out | exact Only.refl _ _ | apply Only.drew)) hB1
 clear hM1 hB1
 have i1:w1.cell? ⟨w.heap.size,2,none⟩=some (.int .i64 n):=(HN1.out.cell w.heap.size 2 hs0 (by omega)).trans HI0.out
 by_cases hn:(n:Int)<(x.size:Int)
 ·rw [if_pos (by omega)] at HQ
  have HV:Hid (x.extract 0 (min (n:Int) (x.size:Int)).toNat=x.extract 0 n):=by
   show x.extract 0 (min (n:Int) (x.size:Int)).toNat=x.extract 0 n
   rw [show (min (n:Int) (x.size:Int)).toNat=n by omega]
  go_wp2_with fail
  go_region_with (go_at_call 165;refine (cS b cv { m with size:=r.length } _ _ ?_ (by simp;omega)).mono ?_;(first | exact HM1.out | exact HM1.out.drew | exact HM1.out.drew.drew | exact HM1.out.drew.drew.drew);rintro e w2 ⟨rfl,hM2,hB2⟩;have HM2:=ae hM2;have HN2:Hid (Only b (w.alloc (.cells #[.int .i64 3,.string t,.int .i64 n] 176)) w2):=Only.trans (by repeat (first | exact HN1.out | exact Only.refl _ _ | apply Only.drew)) hB2;clear hM2 hB2)
  all_goals
   go_wp2
   refine cB rfl rfl ?_
   exact ⟨rfl,⟨_,HM2.out,by rw [HQ.out];exact ⟨rfl,HR.out.push' HV.out,by simp,hp,rfl,rfl⟩⟩,HB0.out.trans HN2.out⟩
 ·rw [if_neg (by omega)] at HQ
  have HV:Hid (x.extract 0 (min (n:Int) (x.size:Int)).toNat=x):=by
   show x.extract 0 (min (n:Int) (x.size:Int)).toNat=x
   rw [show (min (n:Int) (x.size:Int)).toNat=x.size by omega]
   simp
  go_wp2_with fail
  go_region_with (go_at_call 165;refine (cS b cv { m with size:=r.length } _ _ ?_ (by simp;omega)).mono ?_;(first | exact HM1.out | exact HM1.out.drew | exact HM1.out.drew.drew | exact HM1.out.drew.drew.drew);rintro e w2 ⟨rfl,hM2,hB2⟩;have HM2:=ae hM2;have HN2:Hid (Only b (w.alloc (.cells #[.int .i64 3,.string t,.int .i64 n] 176)) w2):=Only.trans (by repeat (first | exact HN1.out | exact Only.refl _ _ | apply Only.drew)) hB2;clear hM2 hB2)
  all_goals
   go_wp2
   refine cB rfl rfl ?_
   exact ⟨rfl,⟨_,HM2.out,by rw [HQ.out];exact ⟨rfl,HR.out.push' HV.out,by simp,hp,rfl,rfl⟩⟩,HB0.out.trans HN2.out⟩
theorem xj (b:Nat)(cv:Value)(m:Mst)(n here:Nat)(t:ByteArray)(x:ByteArray)(r:List ByteArray)(w:World)(hM:MAt w b cv m)(hR:Rep m.S (x :: r))(hz:m.size=(x :: r).length)(hl:(x :: r).length≤50)(hp:m.place=here+1)(h1:x.size≤2000) :
  Calls Tryz.prog 206 #[.pointer (some ⟨b,0,none⟩),.agg #[.int .i64 4,.string t,.int .i64 n],.int .i64 here] w fun e w'=>e=.returned (.tuple #[])∧(∃ m',MAt w' b cv m'∧After m m' (.inl (((if n<x.size then x.extract n x.size else ⟨#[]⟩) :: r),(here+1))))∧Only b w w':=by
 have HM:=ae hM
 have hx:m.S r.length=x:=hR.1
 have HR:=ae hR.2
 have hlt:=hM.lt
 simp only [List.length_cons] at hl hz
 have HZ:=ae hz
 have hi0:(w.alloc (.cells #[.int .i64 4,.string t,.int .i64 n] 176)).cell? ⟨w.heap.size,2,none⟩=some (.int .i64 n):=by simp
 have HI0:=ae hi0
 have HM0:=ae (HM.out.al (.cells #[.int .i64 4,.string t,.int .i64 n] 176))
 have HB0:=ae ((Only.refl b w).al (.cells #[.int .i64 4,.string t,.int .i64 n] 176))
 have hs0:w.heap.size<(w.alloc (.cells #[.int .i64 4,.string t,.int .i64 n] 176)).heap.size:=by simp
 clear hM hR hi0
 obtain ⟨R,hRes⟩:∃ R:Res,R=(.inl (((if n<x.size then x.extract n x.size else ⟨#[]⟩) :: r),(here+1))):=⟨_,rfl⟩
 rw [← hRes]
 have HQ:=ae hRes
 clear hRes
 go_enter Tryz.func206,Tryz.ntmps206
 have HN0:=ae (Only.refl b (w.alloc (.cells #[.int .i64 4,.string t,.int .i64 n] 176)))
 go_wp2_with fail
 refine (dh b cv m r.length x _ ?_ HZ.out (by omega) hx).mono ?_
 ·exact HM0.out
 rintro e w1 ⟨rfl,hM1,hB1⟩
 have HM1:=ae hM1
 have HN1:Hid (Only b (w.alloc (.cells #[.int .i64 4,.string t,.int .i64 n] 176)) w1):=Only.trans (by repeat (first | exact HN0.out | exact Only.refl _ _ | apply Only.drew)) hB1
 clear hM1 hB1
 have i1:w1.cell? ⟨w.heap.size,2,none⟩=some (.int .i64 n):=(HN1.out.cell w.heap.size 2 hs0 (by omega)).trans HI0.out
 by_cases hn:(n:Int)<(x.size:Int)
 ·rw [if_pos (by omega)] at HQ
  have HV:Hid (x.extract (min (n:Int) (x.size:Int)).toNat x.size=x.extract n x.size):=by
   show x.extract (min (n:Int) (x.size:Int)).toNat x.size=x.extract n x.size
   rw [show (min (n:Int) (x.size:Int)).toNat=n by omega]
  go_wp2_with fail
  go_region_with (go_at_call 165;refine (cS b cv { m with size:=r.length } _ _ ?_ (by simp;omega)).mono ?_;(first | exact HM1.out | exact HM1.out.drew | exact HM1.out.drew.drew | exact HM1.out.drew.drew.drew);rintro e w2 ⟨rfl,hM2,hB2⟩;have HM2:=ae hM2;have HN2:Hid (Only b (w.alloc (.cells #[.int .i64 4,.string t,.int .i64 n] 176)) w2):=Only.trans (by repeat (first | exact HN1.out | exact Only.refl _ _ | apply Only.drew)) hB2;clear hM2 hB2)
  all_goals
   go_wp2
   refine cB rfl rfl ?_
   exact ⟨rfl,⟨_,HM2.out,by rw [HQ.out];exact ⟨rfl,HR.out.push' HV.out,by simp,hp,rfl,rfl⟩⟩,HB0.out.trans HN2.out⟩
 ·rw [if_neg (by omega)] at HQ
  have HV:Hid (x.extract (min (n:Int) (x.size:Int)).toNat x.size=⟨#[]⟩):=by
   show x.extract (min (n:Int) (x.size:Int)).toNat x.size=⟨#[]⟩
   rw [show (min (n:Int) (x.size:Int)).toNat=x.size by omega]
   exact iA (by simp)
  go_wp2_with fail
  go_region_with (go_at_call 165;refine (cS b cv { m with size:=r.length } _ _ ?_ (by simp;omega)).mono ?_;(first | exact HM1.out | exact HM1.out.drew | exact HM1.out.drew.drew | exact HM1.out.drew.drew.drew);rintro e w2 ⟨rfl,hM2,hB2⟩;have HM2:=ae hM2;have HN2:Hid (Only b (w.alloc (.cells #[.int .i64 4,.string t,.int .i64 n] 176)) w2):=Only.trans (by repeat (first | exact HN1.out | exact Only.refl _ _ | apply Only.drew)) hB2;clear hM2 hB2)
  all_goals
   go_wp2
   refine cB rfl rfl ?_
   exact ⟨rfl,⟨_,HM2.out,by rw [HQ.out];exact ⟨rfl,HR.out.push' HV.out,by simp,hp,rfl,rfl⟩⟩,HB0.out.trans HN2.out⟩
theorem xk (b:Nat)(cv:Value)(m:Mst)(n here:Nat)(t:ByteArray)(x:ByteArray)(r:List ByteArray)(w:World)(hM:MAt w b cv m)(hR:Rep m.S (x :: r))(hz:m.size=(x :: r).length)(hl:(x :: r).length≤50)(hp:m.place=here+1)(h1:x.size≤2000)(hn:n≤2000) :
  Calls Tryz.prog 206 #[.pointer (some ⟨b,0,none⟩),.agg #[.int .i64 5,.string t,.int .i64 n],.int .i64 here] w fun e w'=>e=.returned (.tuple #[])∧(∃ m',MAt w' b cv m'∧After m m' (.inl ((dI x n :: r),(here+1))))∧Only b w w':=by
 have HM:=ae hM
 have hx:m.S r.length=x:=hR.1
 have HR:=ae hR.2
 have hlt:=hM.lt
 simp only [List.length_cons] at hl hz
 have HZ:=ae hz
 have hi0:(w.alloc (.cells #[.int .i64 5,.string t,.int .i64 n] 176)).cell? ⟨w.heap.size,2,none⟩=some (.int .i64 n):=by simp
 have HI0:=ae hi0
 have HM0:=ae (HM.out.al (.cells #[.int .i64 5,.string t,.int .i64 n] 176))
 have HB0:=ae ((Only.refl b w).al (.cells #[.int .i64 5,.string t,.int .i64 n] 176))
 have hs0:w.heap.size<(w.alloc (.cells #[.int .i64 5,.string t,.int .i64 n] 176)).heap.size:=by simp
 clear hM hR hi0
 obtain ⟨R,hRes⟩:∃ R:Res,R=(.inl ((dI x n :: r),(here+1))):=⟨_,rfl⟩
 rw [← hRes]
 have HQ:=ae hRes
 clear hRes
 go_enter Tryz.func206,Tryz.ntmps206
 have HN0:=ae (Only.refl b (w.alloc (.cells #[.int .i64 5,.string t,.int .i64 n] 176)))
 go_wp2_with fail
 go_region_with (first
  | (go_at_call 228;refine (dh b cv m r.length x _ ?_ HZ.out (by omega) hx).mono ?_;(first | exact HM0.out | exact HM0.out.drew | exact HM0.out.drew.drew | exact HM0.out.drew.drew.drew);rintro e w1 ⟨rfl,hM1,hB1⟩;have HM1:=ae hM1;have HN1:Hid (Only b (w.alloc (.cells #[.int .i64 5,.string t,.int .i64 n] 176)) w1):=Only.trans (by repeat (first | exact HN0.out | exact Only.refl _ _ | apply Only.drew)) hB1;clear hM1 hB1;have i1:w1.cell? ⟨w.heap.size,2,none⟩=some (.int .i64 n):=(HN1.out.cell w.heap.size 2 hs0 (by omega)).trans HI0.out)
  | (go_at_call 229;refine (qP x n _ h1 hn).mono ?_;rintro e w2 ⟨rfl,hB2⟩;have HM2:Hid (MAt w2 b cv { m with size:=r.length }):=MAt.bel (by first | exact HM1.out | exact HM1.out.drew | exact HM1.out.drew.drew | exact HM1.out.drew.drew.drew) hB2;have HN2:Hid (Only b (w.alloc (.cells #[.int .i64 5,.string t,.int .i64 n] 176)) w2):=Only.bel (by repeat (first | exact HN1.out | apply Only.drew)) hB2;clear hB2)
  | (go_at_call 165;refine (cS b cv { m with size:=r.length } _ _ ?_ (by simp;omega)).mono ?_;(first | exact HM2.out | exact HM2.out.drew | exact HM2.out.drew.drew | exact HM2.out.drew.drew.drew);rintro e w3 ⟨rfl,hM3,hB3⟩;have HM3:=ae hM3;have HN3:Hid (Only b (w.alloc (.cells #[.int .i64 5,.string t,.int .i64 n] 176)) w3):=Only.trans (by repeat (first | exact HN2.out | exact Only.refl _ _ | apply Only.drew)) hB3;clear hM3 hB3))
 all_goals
  go_wp2
  refine cB rfl rfl ?_
  exact ⟨rfl,⟨_,HM3.out,by rw [HQ.out];exact ⟨rfl,HR.out.push _,by simp,hp,rfl,rfl⟩⟩,HB0.out.trans HN3.out⟩
theorem xl (b:Nat)(cv:Value)(m:Mst)(n here:Nat)(t:ByteArray)(x y:ByteArray)(r:List ByteArray)(w:World)(hM:MAt w b cv m)(hR:Rep m.S (x :: y :: r))(hz:m.size=(x :: y :: r).length)(hl:(x :: y :: r).length≤50)(hp:m.place=here+1) :
  Calls Tryz.prog 206 #[.pointer (some ⟨b,0,none⟩),.agg #[.int .i64 6,.string t,.int .i64 n],.int .i64 here] w fun e w'=>e=.returned (.tuple #[])∧(∃ m',MAt w' b cv m'∧After m m' (.inl ((cY (x.toList == y.toList) :: r),(here+1))))∧Only b w w':=by
 have HM:=ae hM
 have hx:m.S (r.length+1)=x:=hR.1
 have hy:m.S r.length=y:=hR.2.1
 have HR:=ae hR.2.2
 have hlt:=hM.lt
 simp only [List.length_cons] at hl hz
 have HZ:=ae hz
 have hi0:(w.alloc (.cells #[.int .i64 6,.string t,.int .i64 n] 176)).cell? ⟨w.heap.size,2,none⟩=some (.int .i64 n):=by simp
 have HI0:=ae hi0
 have HM0:=ae (HM.out.al (.cells #[.int .i64 6,.string t,.int .i64 n] 176))
 have HB0:=ae ((Only.refl b w).al (.cells #[.int .i64 6,.string t,.int .i64 n] 176))
 have hs0:w.heap.size<(w.alloc (.cells #[.int .i64 6,.string t,.int .i64 n] 176)).heap.size:=by simp
 clear hM hR hi0
 obtain ⟨R,hRes⟩:∃ R:Res,R=(.inl ((cY (x.toList == y.toList) :: r),(here+1))):=⟨_,rfl⟩
 rw [← hRes]
 have HQ:=ae hRes
 clear hRes
 go_enter Tryz.func206,Tryz.ntmps206
 have HN0:=ae (Only.refl b (w.alloc (.cells #[.int .i64 6,.string t,.int .i64 n] 176)))
 go_wp2_with fail
 go_region_with (first
  | (go_at_call 228;refine (dh b cv m (r.length+1) x _ ?_ HZ.out (by omega) hx).mono ?_;(first | exact HM0.out | exact HM0.out.drew | exact HM0.out.drew.drew | exact HM0.out.drew.drew.drew);rintro e w1 ⟨rfl,hM1,hB1⟩;have HM1:=ae hM1;have HN1:Hid (Only b (w.alloc (.cells #[.int .i64 6,.string t,.int .i64 n] 176)) w1):=Only.trans (by repeat (first | exact HN0.out | exact Only.refl _ _ | apply Only.drew)) hB1;clear hM1 hB1)
  | (go_at_call 228;refine (dh b cv { m with size:=r.length+1 } r.length y _ ?_ rfl (by omega) hy).mono ?_;(first | exact HM1.out | exact HM1.out.drew | exact HM1.out.drew.drew | exact HM1.out.drew.drew.drew);rintro e w2 ⟨rfl,hM2,hB2⟩;have HM2:=ae hM2;have HN2:Hid (Only b (w.alloc (.cells #[.int .i64 6,.string t,.int .i64 n] 176)) w2):=Only.trans (by repeat (first | exact HN1.out | exact Only.refl _ _ | apply Only.drew)) hB2;clear hM2 hB2)
  | (go_at_call 166;refine (lI _ _).mono ?_;rintro e w3 ⟨rfl,hw3⟩;subst hw3)
  | (go_at_call 165;refine (cS b cv { m with size:=r.length } _ _ ?_ (by simp;omega)).mono ?_;(first | exact HM2.out | exact HM2.out.drew | exact HM2.out.drew.drew | exact HM2.out.drew.drew.drew);rintro e w4 ⟨rfl,hM4,hB4⟩;have HM4:=ae hM4;have HN4:Hid (Only b (w.alloc (.cells #[.int .i64 6,.string t,.int .i64 n] 176)) w4):=Only.trans (by repeat (first | exact HN2.out | exact Only.refl _ _ | apply Only.drew)) hB4;clear hM4 hB4))
 all_goals
  go_wp2
  refine cB rfl rfl ?_
  exact ⟨rfl,⟨_,HM4.out,by rw [HQ.out];exact ⟨rfl,HR.out.push _,by simp,hp,rfl,rfl⟩⟩,HB0.out.trans HN4.out⟩
theorem xm (b:Nat)(cv:Value)(m:Mst)(n here:Nat)(t:ByteArray)(x:ByteArray)(r:List ByteArray)(w:World)(hM:MAt w b cv m)(hR:Rep m.S (x :: r))(hz:m.size=(x :: r).length)(hl:(x :: r).length≤50)(hp:m.place=here+1)(hl2:r.length+2≤50) :
  Calls Tryz.prog 206 #[.pointer (some ⟨b,0,none⟩),.agg #[.int .i64 7,.string t,.int .i64 n],.int .i64 here] w fun e w'=>e=.returned (.tuple #[])∧(∃ m',MAt w' b cv m'∧After m m' (.inl ((x :: x :: r),(here+1))))∧Only b w w':=by
 have HM:=ae hM
 have hx:m.S r.length=x:=hR.1
 have HR:=ae hR.2
 have hlt:=hM.lt
 simp only [List.length_cons] at hl hz
 have HZ:=ae hz
 have hi0:(w.alloc (.cells #[.int .i64 7,.string t,.int .i64 n] 176)).cell? ⟨w.heap.size,2,none⟩=some (.int .i64 n):=by simp
 have HI0:=ae hi0
 have HM0:=ae (HM.out.al (.cells #[.int .i64 7,.string t,.int .i64 n] 176))
 have HB0:=ae ((Only.refl b w).al (.cells #[.int .i64 7,.string t,.int .i64 n] 176))
 have hs0:w.heap.size<(w.alloc (.cells #[.int .i64 7,.string t,.int .i64 n] 176)).heap.size:=by simp
 clear hM hR hi0
 obtain ⟨R,hRes⟩:∃ R:Res,R=(.inl ((x :: x :: r),(here+1))):=⟨_,rfl⟩
 rw [← hRes]
 have HQ:=ae hRes
 clear hRes
 go_enter Tryz.func206,Tryz.ntmps206
 have HN0:=ae (Only.refl b (w.alloc (.cells #[.int .i64 7,.string t,.int .i64 n] 176)))
 go_wp2_with fail
 refine (dh b cv m r.length x _ ?_ HZ.out (by omega) hx).mono ?_
 ·exact HM0.out
 rintro e w1 ⟨rfl,hM1,hB1⟩
 have HM1:=ae hM1
 have HN1:Hid (Only b (w.alloc (.cells #[.int .i64 7,.string t,.int .i64 n] 176)) w1):=Only.trans (by repeat (first | exact HN0.out | exact Only.refl _ _ | apply Only.drew)) hB1
 clear hM1 hB1
 go_wp2_with fail
 refine (cS b cv { m with size:=r.length } x _ ?_ (by simp;omega)).mono ?_
 ·exact HM1.out
 rintro e w2 ⟨rfl,hM2,hB2⟩
 have HM2:=ae hM2
 have HN2:Hid (Only b (w.alloc (.cells #[.int .i64 7,.string t,.int .i64 n] 176)) w2):=Only.trans (by repeat (first | exact HN1.out | exact Only.refl _ _ | apply Only.drew)) hB2
 clear hM2 hB2
 go_wp2_with fail
 refine (cS b cv { m with S:=upd m.S r.length x,size:=r.length+1 } x _ ?_ (by simp;omega)).mono ?_
 ·exact HM2.out
 rintro e w3 ⟨rfl,hM3,hB3⟩
 have HM3:=ae hM3
 have HN3:Hid (Only b (w.alloc (.cells #[.int .i64 7,.string t,.int .i64 n] 176)) w3):=Only.trans (by repeat (first | exact HN2.out | exact Only.refl _ _ | apply Only.drew)) hB3
 clear hM3 hB3
 go_wp2
 refine cB rfl rfl ?_
 exact ⟨rfl,⟨_,HM3.out,by rw [HQ.out];exact ⟨rfl,(HR.out.push x).push x,by simp,hp,rfl,rfl⟩⟩,HB0.out.trans HN3.out⟩
theorem xn (b:Nat)(cv:Value)(m:Mst)(n here:Nat)(t:ByteArray)(x y:ByteArray)(r:List ByteArray)(w:World)(hM:MAt w b cv m)(hR:Rep m.S (x :: y :: r))(hz:m.size=(x :: y :: r).length)(hl:(x :: y :: r).length≤50)(hp:m.place=here+1) :
  Calls Tryz.prog 206 #[.pointer (some ⟨b,0,none⟩),.agg #[.int .i64 8,.string t,.int .i64 n],.int .i64 here] w fun e w'=>e=.returned (.tuple #[])∧(∃ m',MAt w' b cv m'∧After m m' (.inl ((y :: x :: r),(here+1))))∧Only b w w':=by
 have HM:=ae hM
 have hx:m.S (r.length+1)=x:=hR.1
 have hy:m.S r.length=y:=hR.2.1
 have HR:=ae hR.2.2
 have hlt:=hM.lt
 simp only [List.length_cons] at hl hz
 have HZ:=ae hz
 have hi0:(w.alloc (.cells #[.int .i64 8,.string t,.int .i64 n] 176)).cell? ⟨w.heap.size,2,none⟩=some (.int .i64 n):=by simp
 have HI0:=ae hi0
 have HM0:=ae (HM.out.al (.cells #[.int .i64 8,.string t,.int .i64 n] 176))
 have HB0:=ae ((Only.refl b w).al (.cells #[.int .i64 8,.string t,.int .i64 n] 176))
 have hs0:w.heap.size<(w.alloc (.cells #[.int .i64 8,.string t,.int .i64 n] 176)).heap.size:=by simp
 clear hM hR hi0
 obtain ⟨R,hRes⟩:∃ R:Res,R=(.inl ((y :: x :: r),(here+1))):=⟨_,rfl⟩
 rw [← hRes]
 have HQ:=ae hRes
 clear hRes
 go_enter Tryz.func206,Tryz.ntmps206
 have HN0:=ae (Only.refl b (w.alloc (.cells #[.int .i64 8,.string t,.int .i64 n] 176)))
 go_wp2_with fail
 refine (dh b cv m (r.length+1) x _ ?_ HZ.out (by omega) hx).mono ?_
 ·exact HM0.out
 rintro e w1 ⟨rfl,hM1,hB1⟩
 have HM1:=ae hM1
 have HN1:Hid (Only b (w.alloc (.cells #[.int .i64 8,.string t,.int .i64 n] 176)) w1):=Only.trans (by repeat (first | exact HN0.out | exact Only.refl _ _ | apply Only.drew)) hB1
 clear hM1 hB1
 go_wp2_with fail
 refine (dh b cv { m with size:=r.length+1 } r.length y _ ?_ rfl (by omega) hy).mono ?_
 ·exact HM1.out
 rintro e w2 ⟨rfl,hM2,hB2⟩
 have HM2:=ae hM2
 have HN2:Hid (Only b (w.alloc (.cells #[.int .i64 8,.string t,.int .i64 n] 176)) w2):=Only.trans (by repeat (first | exact HN1.out | exact Only.refl _ _ | apply Only.drew)) hB2
 clear hM2 hB2
 go_wp2_with fail
 refine (cS b cv { m with size:=r.length } x _ ?_ (by simp;omega)).mono ?_
 ·exact HM2.out
 rintro e w3 ⟨rfl,hM3,hB3⟩
 have HM3:=ae hM3
 have HN3:Hid (Only b (w.alloc (.cells #[.int .i64 8,.string t,.int .i64 n] 176)) w3):=Only.trans (by repeat (first | exact HN2.out | exact Only.refl _ _ | apply Only.drew)) hB3
 clear hM3 hB3
 go_wp2_with fail
 refine (cS b cv { m with S:=upd m.S r.length x,size:=r.length+1 } y _ ?_ (by simp;omega)).mono ?_
 ·exact HM3.out
 rintro e w4 ⟨rfl,hM4,hB4⟩
 have HM4:=ae hM4
 have HN4:Hid (Only b (w.alloc (.cells #[.int .i64 8,.string t,.int .i64 n] 176)) w4):=Only.trans (by repeat (first | exact HN3.out | exact Only.refl _ _ | apply Only.drew)) hB4
 clear hM4 hB4
 go_wp2
 refine cB rfl rfl ?_
 exact ⟨rfl,⟨_,HM4.out,by rw [HQ.out];exact ⟨rfl,(HR.out.push x).push y,by simp,hp,rfl,rfl⟩⟩,HB0.out.trans HN4.out⟩
theorem xo (b:Nat)(cv:Value)(m:Mst)(n here:Nat)(t:ByteArray)(x:ByteArray)(r:List ByteArray)(w:World)(hM:MAt w b cv m)(hR:Rep m.S (x :: r))(hz:m.size=(x :: r).length)(hl:(x :: r).length≤50)(hp:m.place=here+1) :
  Calls Tryz.prog 206 #[.pointer (some ⟨b,0,none⟩),.agg #[.int .i64 9,.string t,.int .i64 n],.int .i64 here] w fun e w'=>e=.returned (.tuple #[])∧(∃ m',MAt w' b cv m'∧After m m' (.inl (r,(here+1))))∧Only b w w':=by
 have HM:=ae hM
 have hx:m.S r.length=x:=hR.1
 have HR:=ae hR.2
 have hlt:=hM.lt
 simp only [List.length_cons] at hl hz
 have HZ:=ae hz
 have hi0:(w.alloc (.cells #[.int .i64 9,.string t,.int .i64 n] 176)).cell? ⟨w.heap.size,2,none⟩=some (.int .i64 n):=by simp
 have HI0:=ae hi0
 have HM0:=ae (HM.out.al (.cells #[.int .i64 9,.string t,.int .i64 n] 176))
 have HB0:=ae ((Only.refl b w).al (.cells #[.int .i64 9,.string t,.int .i64 n] 176))
 have hs0:w.heap.size<(w.alloc (.cells #[.int .i64 9,.string t,.int .i64 n] 176)).heap.size:=by simp
 clear hM hR hi0
 obtain ⟨R,hRes⟩:∃ R:Res,R=(.inl (r,(here+1))):=⟨_,rfl⟩
 rw [← hRes]
 have HQ:=ae hRes
 clear hRes
 go_enter Tryz.func206,Tryz.ntmps206
 have HN0:=ae (Only.refl b (w.alloc (.cells #[.int .i64 9,.string t,.int .i64 n] 176)))
 go_wp2_with fail
 refine (dh b cv m r.length x _ ?_ HZ.out (by omega) hx).mono ?_
 ·exact HM0.out
 rintro e w1 ⟨rfl,hM1,hB1⟩
 have HM1:=ae hM1
 have HN1:Hid (Only b (w.alloc (.cells #[.int .i64 9,.string t,.int .i64 n] 176)) w1):=Only.trans (by repeat (first | exact HN0.out | exact Only.refl _ _ | apply Only.drew)) hB1
 clear hM1 hB1
 go_wp2
 refine cB rfl rfl ?_
 exact ⟨rfl,⟨_,HM1.out,by rw [HQ.out];exact ⟨rfl,HR.out,rfl,hp,rfl,rfl⟩⟩,HB0.out.trans HN1.out⟩
theorem wD (b:Nat)(cv:Value)(m:Mst)(n here:Nat)(t:ByteArray)(stk:List ByteArray)(w:World)(hM:MAt w b cv m)(hR:Rep m.S (stk))(hz:m.size=(stk).length) :
  Calls Tryz.prog 206 #[.pointer (some ⟨b,0,none⟩),.agg #[.int .i64 10,.string t,.int .i64 n],.int .i64 here] w fun e w'=>e=.returned (.tuple #[])∧(∃ m',MAt w' b cv m'∧After m m' (.inl (stk,n)))∧Only b w w':=by
 have HM:=ae hM
 have HR:=ae hR
 have hlt:=hM.lt
 have HZ:=ae hz
 have hi0:(w.alloc (.cells #[.int .i64 10,.string t,.int .i64 n] 176)).cell? ⟨w.heap.size,2,none⟩=some (.int .i64 n):=by simp
 have HI0:=ae hi0
 have HM0:=ae (HM.out.al (.cells #[.int .i64 10,.string t,.int .i64 n] 176))
 have HB0:=ae ((Only.refl b w).al (.cells #[.int .i64 10,.string t,.int .i64 n] 176))
 have hs0:w.heap.size<(w.alloc (.cells #[.int .i64 10,.string t,.int .i64 n] 176)).heap.size:=by simp
 clear hM hR hi0
 obtain ⟨R,hRes⟩:∃ R:Res,R=(.inl (stk,n)):=⟨_,rfl⟩
 rw [← hRes]
 have HQ:=ae hRes
 clear hRes
 go_enter Tryz.func206,Tryz.ntmps206
 obtain ⟨c2,z2⟩:=HM.out.fld 52 (.int .i64 m.place) (by omega) (by simp [Mst.F])
 go_wp2
 refine cB rfl rfl ?_
 exact ⟨rfl,⟨_,(HM.out.setPlace _).al _,by rw [HQ.out];exact ⟨rfl,HR.out,HZ.out,rfl,rfl,rfl⟩⟩,(bC (Only.refl _ _) _ _).al _⟩
theorem wE (b:Nat)(cv:Value)(m:Mst)(n here:Nat)(t:ByteArray)(x:ByteArray)(r:List ByteArray)(w:World)(hM:MAt w b cv m)(hR:Rep m.S (x :: r))(hz:m.size=(x :: r).length)(hl:(x :: r).length≤50)(hp:m.place=here+1) :
  Calls Tryz.prog 206 #[.pointer (some ⟨b,0,none⟩),.agg #[.int .i64 11,.string t,.int .i64 n],.int .i64 here] w fun e w'=>e=.returned (.tuple #[])∧(∃ m',MAt w' b cv m'∧After m m' (.inl (r,(if x.toList=[]∨(x.toList == [48])=true then n else here+1))))∧Only b w w':=by
 have HM:=ae hM
 have hx:m.S r.length=x:=hR.1
 have HR:=ae hR.2
 have hlt:=hM.lt
 simp only [List.length_cons] at hl hz
 have HZ:=ae hz
 have hi0:(w.alloc (.cells #[.int .i64 11,.string t,.int .i64 n] 176)).cell? ⟨w.heap.size,2,none⟩=some (.int .i64 n):=by simp
 have HI0:=ae hi0
 have HM0:=ae (HM.out.al (.cells #[.int .i64 11,.string t,.int .i64 n] 176))
 have HB0:=ae ((Only.refl b w).al (.cells #[.int .i64 11,.string t,.int .i64 n] 176))
 have hs0:w.heap.size<(w.alloc (.cells #[.int .i64 11,.string t,.int .i64 n] 176)).heap.size:=by simp
 clear hM hR hi0
 obtain ⟨R,hRes⟩:∃ R:Res,R=(.inl (r,(if x.toList=[]∨(x.toList == [48])=true then n else here+1))):=⟨_,rfl⟩
 rw [← hRes]
 have HQ:=ae hRes
 clear hRes
 go_enter Tryz.func206,Tryz.ntmps206
 have HN0:=ae (Only.refl b (w.alloc (.cells #[.int .i64 11,.string t,.int .i64 n] 176)))
 go_wp2_with fail
 refine (dh b cv m r.length x _ ?_ HZ.out (by omega) hx).mono ?_
 ·exact HM0.out
 rintro e w1 ⟨rfl,hM1,hB1⟩
 have HM1:=ae hM1
 have HN1:Hid (Only b (w.alloc (.cells #[.int .i64 11,.string t,.int .i64 n] 176)) w1):=Only.trans (by repeat (first | exact HN0.out | exact Only.refl _ _ | apply Only.drew)) hB1
 clear hM1 hB1
 have i1:w1.cell? ⟨w.heap.size,2,none⟩=some (.int .i64 n):=(HN1.out.cell w.heap.size 2 hs0 (by omega)).trans HI0.out
 obtain ⟨c2,z2⟩:=HM1.out.fld 52 (.int .i64 m.place) (by omega) (by simp [Mst.F])
 by_cases he:x.toList=[]
 ·rw [if_pos (.inl he)] at HQ
  go_wp2
  refine cB rfl rfl ?_
  exact ⟨rfl,⟨_,HM1.out.setPlace _,by rw [HQ.out];exact ⟨rfl,HR.out,rfl,rfl,rfl,rfl⟩⟩,bC (HB0.out.trans HN1.out) _ _⟩
 ·have heb:x.toList.isEmpty=false:=by simp [he]
  cases h48:(x.toList == [48]) with
  | true =>
   rw [if_pos (.inr h48)] at HQ
   go_wp2
   refine cB rfl rfl ?_
   exact ⟨rfl,⟨_,HM1.out.setPlace _,by rw [HQ.out];exact ⟨rfl,HR.out,rfl,rfl,rfl,rfl⟩⟩,bC (HB0.out.trans HN1.out) _ _⟩
  | false =>
   rw [if_neg (by simp [he,h48])] at HQ
   have h49:¬ x.toList=[48]:=by simpa using h48
   go_wp2
   refine cB rfl rfl ?_
   exact ⟨rfl,⟨_,HM1.out,by rw [HQ.out];exact ⟨rfl,HR.out,rfl,hp,rfl,rfl⟩⟩,HB0.out.trans HN1.out⟩
theorem wF (b:Nat)(cv:Value)(m:Mst)(n here:Nat)(t:ByteArray)(x:ByteArray)(r:List ByteArray)(w:World)(hM:MAt w b cv m)(hR:Rep m.S (x :: r))(hz:m.size=(x :: r).length)(hl:(x :: r).length≤50)(hh:here≤2000)(hP:Pow w)(hPb:2<b)(looks:Nat)(hlk:m.looks=looks)(hl2:looks≤200) :
  Calls Tryz.prog 206 #[.pointer (some ⟨b,0,none⟩),.agg #[.int .i64 12,.string t,.int .i64 n],.int .i64 here] w fun e w'=>e=.returned (.tuple #[])∧(∃ m',MAt w' b cv m'∧After m m' (dV true x r here looks))∧Only b w w':=by
 have HM:=ae hM
 have hx:m.S r.length=x:=hR.1
 have HR:=ae hR.2
 have hlt:=hM.lt
 simp only [List.length_cons] at hl hz
 have HZ:=ae hz
 have hi0:(w.alloc (.cells #[.int .i64 12,.string t,.int .i64 n] 176)).cell? ⟨w.heap.size,2,none⟩=some (.int .i64 n):=by simp
 have HI0:=ae hi0
 have HM0:=ae (HM.out.al (.cells #[.int .i64 12,.string t,.int .i64 n] 176))
 have HB0:=ae ((Only.refl b w).al (.cells #[.int .i64 12,.string t,.int .i64 n] 176))
 have hs0:w.heap.size<(w.alloc (.cells #[.int .i64 12,.string t,.int .i64 n] 176)).heap.size:=by simp
 clear hM hR hi0
 obtain ⟨R,hRes⟩:∃ R:Res,R=(dV true x r here looks):=⟨_,rfl⟩
 rw [← hRes]
 have HQ:=ae hRes
 clear hRes
 go_enter Tryz.func206,Tryz.ntmps206
 have HN0:=ae (Only.refl b (w.alloc (.cells #[.int .i64 12,.string t,.int .i64 n] 176)))
 have HP:=ae hP
 clear hP
 go_wp2_with fail
 refine (nE b cv m true r.length here _ HM0.out HZ.out (by omega) hh (by omega) (by omega) (HP.out.low (HB0.out.below lr (Nat.le_of_lt hlt)) hPb) hPb).mono ?_
 rw [hx]
 rintro e w1 ⟨rfl,hM1,hB1⟩
 have HM1:=ae hM1
 have HB1:=ae (HB0.out.trans hB1)
 clear hM1 hB1
 go_wp2
 refine cB rfl rfl ?_
 refine ⟨rfl,⟨_,HM1.out,?_⟩,HB1.out⟩
 rw [HQ.out]
 unfold dV
 cases hn:au x with
 | false =>
  rw [if_pos rfl,if_pos rfl]
  exact ⟨rfl,rfl⟩
 | true =>
  rw [if_neg (show ¬ (true=false) by simp),if_neg (show ¬ (true=false) by simp)]
  by_cases h200:looks=200
  ·rw [if_pos (show m.looks=200 by omega),if_pos h200]
   exact ⟨rfl,rfl⟩
  ·rw [if_neg (show ¬ m.looks=200 by omega),if_neg h200]
   exact ⟨rfl,HR.out,rfl,rfl,rfl,rfl⟩
theorem wG (b:Nat)(cv:Value)(m:Mst)(n here:Nat)(t:ByteArray)(x:ByteArray)(r:List ByteArray)(w:World)(hM:MAt w b cv m)(hR:Rep m.S (x :: r))(hz:m.size=(x :: r).length)(hl:(x :: r).length≤50)(hh:here≤2000)(hP:Pow w)(hPb:2<b)(looks:Nat)(hlk:m.looks=looks)(hl2:looks≤200) :
  Calls Tryz.prog 206 #[.pointer (some ⟨b,0,none⟩),.agg #[.int .i64 13,.string t,.int .i64 n],.int .i64 here] w fun e w'=>e=.returned (.tuple #[])∧(∃ m',MAt w' b cv m'∧After m m' (dV false x r here looks))∧Only b w w':=by
 have HM:=ae hM
 have hx:m.S r.length=x:=hR.1
 have HR:=ae hR.2
 have hlt:=hM.lt
 simp only [List.length_cons] at hl hz
 have HZ:=ae hz
 have hi0:(w.alloc (.cells #[.int .i64 13,.string t,.int .i64 n] 176)).cell? ⟨w.heap.size,2,none⟩=some (.int .i64 n):=by simp
 have HI0:=ae hi0
 have HM0:=ae (HM.out.al (.cells #[.int .i64 13,.string t,.int .i64 n] 176))
 have HB0:=ae ((Only.refl b w).al (.cells #[.int .i64 13,.string t,.int .i64 n] 176))
 have hs0:w.heap.size<(w.alloc (.cells #[.int .i64 13,.string t,.int .i64 n] 176)).heap.size:=by simp
 clear hM hR hi0
 obtain ⟨R,hRes⟩:∃ R:Res,R=(dV false x r here looks):=⟨_,rfl⟩
 rw [← hRes]
 have HQ:=ae hRes
 clear hRes
 go_enter Tryz.func206,Tryz.ntmps206
 have HN0:=ae (Only.refl b (w.alloc (.cells #[.int .i64 13,.string t,.int .i64 n] 176)))
 have HP:=ae hP
 clear hP
 go_wp2_with fail
 refine (nE b cv m false r.length here _ HM0.out HZ.out (by omega) hh (by omega) (by omega) (HP.out.low (HB0.out.below lr (Nat.le_of_lt hlt)) hPb) hPb).mono ?_
 rw [hx]
 rintro e w1 ⟨rfl,hM1,hB1⟩
 have HM1:=ae hM1
 have HB1:=ae (HB0.out.trans hB1)
 clear hM1 hB1
 go_wp2
 refine cB rfl rfl ?_
 refine ⟨rfl,⟨_,HM1.out,?_⟩,HB1.out⟩
 rw [HQ.out]
 unfold dV
 cases hn:au x with
 | false =>
  rw [if_pos rfl,if_pos rfl]
  exact ⟨rfl,rfl⟩
 | true =>
  rw [if_neg (show ¬ (true=false) by simp),if_neg (show ¬ (true=false) by simp)]
  by_cases h200:looks=200
  ·rw [if_pos (show m.looks=200 by omega),if_pos h200]
   exact ⟨rfl,rfl⟩
  ·rw [if_neg (show ¬ m.looks=200 by omega),if_neg h200]
   exact ⟨rfl,HR.out,rfl,rfl,rfl,rfl⟩
theorem wH (b:Nat)(cv:Value)(m:Mst)(n here:Nat)(t:ByteArray)(x:ByteArray)(r:List ByteArray)(w:World)(hM:MAt w b cv m)(hR:Rep m.S (x :: r))(hz:m.size=(x :: r).length)(hl:(x :: r).length≤50) :
  Calls Tryz.prog 206 #[.pointer (some ⟨b,0,none⟩),.agg #[.int .i64 14,.string t,.int .i64 n],.int .i64 here] w fun e w'=>e=.returned (.tuple #[])∧(∃ m',MAt w' b cv m'∧After m m' (.inr (.inl (1,x))))∧Only b w w':=by
 have HM:=ae hM
 have hx:m.S r.length=x:=hR.1
 have HR:=ae hR.2
 have hlt:=hM.lt
 simp only [List.length_cons] at hl hz
 have HZ:=ae hz
 have hi0:(w.alloc (.cells #[.int .i64 14,.string t,.int .i64 n] 176)).cell? ⟨w.heap.size,2,none⟩=some (.int .i64 n):=by simp
 have HI0:=ae hi0
 have HM0:=ae (HM.out.al (.cells #[.int .i64 14,.string t,.int .i64 n] 176))
 have HB0:=ae ((Only.refl b w).al (.cells #[.int .i64 14,.string t,.int .i64 n] 176))
 have hs0:w.heap.size<(w.alloc (.cells #[.int .i64 14,.string t,.int .i64 n] 176)).heap.size:=by simp
 clear hM hR hi0
 obtain ⟨R,hRes⟩:∃ R:Res,R=(.inr (.inl (1,x))):=⟨_,rfl⟩
 rw [← hRes]
 have HQ:=ae hRes
 clear hRes
 go_enter Tryz.func206,Tryz.ntmps206
 have HN0:=ae (Only.refl b (w.alloc (.cells #[.int .i64 14,.string t,.int .i64 n] 176)))
 go_wp2_with fail
 refine (dh b cv m r.length x _ ?_ HZ.out (by omega) hx).mono ?_
 ·exact HM0.out
 rintro e w1 ⟨rfl,hM1,hB1⟩
 have HM1:=ae hM1
 have HN1:Hid (Only b (w.alloc (.cells #[.int .i64 14,.string t,.int .i64 n] 176)) w1):=Only.trans (by repeat (first | exact HN0.out | exact Only.refl _ _ | apply Only.drew)) hB1
 clear hM1 hB1
 go_wp2_with fail
 refine (fc b cv { m with size:=r.length } _ _ _ ?_).mono ?_
 ·exact HM1.out
 rintro e w2 ⟨rfl,hM2,hB2⟩
 have HM2:=ae hM2
 have HN2:Hid (Only b (w.alloc (.cells #[.int .i64 14,.string t,.int .i64 n] 176)) w2):=Only.trans (by repeat (first | exact HN1.out | exact Only.refl _ _ | apply Only.drew)) hB2
 clear hM2 hB2
 go_wp2
 refine cB rfl rfl ?_
 exact ⟨rfl,⟨_,HM2.out,by rw [HQ.out];exact ⟨rfl,rfl⟩⟩,HB0.out.trans HN2.out⟩
theorem wI (b:Nat)(cv:Value)(m:Mst)(n here:Nat)(t:ByteArray)(x:ByteArray)(r:List ByteArray)(w:World)(hM:MAt w b cv m)(hR:Rep m.S (x :: r))(hz:m.size=(x :: r).length)(hl:(x :: r).length≤50) :
  Calls Tryz.prog 206 #[.pointer (some ⟨b,0,none⟩),.agg #[.int .i64 15,.string t,.int .i64 n],.int .i64 here] w fun e w'=>e=.returned (.tuple #[])∧(∃ m',MAt w' b cv m'∧After m m' (.inr (.inl (0,x))))∧Only b w w':=by
 have HM:=ae hM
 have hx:m.S r.length=x:=hR.1
 have HR:=ae hR.2
 have hlt:=hM.lt
 simp only [List.length_cons] at hl hz
 have HZ:=ae hz
 have hi0:(w.alloc (.cells #[.int .i64 15,.string t,.int .i64 n] 176)).cell? ⟨w.heap.size,2,none⟩=some (.int .i64 n):=by simp
 have HI0:=ae hi0
 have HM0:=ae (HM.out.al (.cells #[.int .i64 15,.string t,.int .i64 n] 176))
 have HB0:=ae ((Only.refl b w).al (.cells #[.int .i64 15,.string t,.int .i64 n] 176))
 have hs0:w.heap.size<(w.alloc (.cells #[.int .i64 15,.string t,.int .i64 n] 176)).heap.size:=by simp
 clear hM hR hi0
 obtain ⟨R,hRes⟩:∃ R:Res,R=(.inr (.inl (0,x))):=⟨_,rfl⟩
 rw [← hRes]
 have HQ:=ae hRes
 clear hRes
 go_enter Tryz.func206,Tryz.ntmps206
 have HN0:=ae (Only.refl b (w.alloc (.cells #[.int .i64 15,.string t,.int .i64 n] 176)))
 go_wp2_with fail
 refine (dh b cv m r.length x _ ?_ HZ.out (by omega) hx).mono ?_
 ·exact HM0.out
 rintro e w1 ⟨rfl,hM1,hB1⟩
 have HM1:=ae hM1
 have HN1:Hid (Only b (w.alloc (.cells #[.int .i64 15,.string t,.int .i64 n] 176)) w1):=Only.trans (by repeat (first | exact HN0.out | exact Only.refl _ _ | apply Only.drew)) hB1
 clear hM1 hB1
 go_wp2_with fail
 refine (fc b cv { m with size:=r.length } _ _ _ ?_).mono ?_
 ·exact HM1.out
 rintro e w2 ⟨rfl,hM2,hB2⟩
 have HM2:=ae hM2
 have HN2:Hid (Only b (w.alloc (.cells #[.int .i64 15,.string t,.int .i64 n] 176)) w2):=Only.trans (by repeat (first | exact HN1.out | exact Only.refl _ _ | apply Only.drew)) hB2
 clear hM2 hB2
 go_wp2
 refine cB rfl rfl ?_
 exact ⟨rfl,⟨_,HM2.out,by rw [HQ.out];exact ⟨rfl,rfl⟩⟩,HB0.out.trans HN2.out⟩
def dB (op:Nat)(stk:List ByteArray):Bool:=decide (aB op≤stk.length∧stk.length - aB op+bi op≤50)
def bq (f:Nat→Ins)(cnt place steps looks:Nat)(stk:List ByteArray):Res :=
 if cnt≤place then .inr (.inl (2,(cH place))) else if steps=2000 then .inr (.inl (3,⟨#[]⟩)) else
  if dB (f place).op.toNat stk=false then .inr (.inl (2,(cH place))) else bY (f place).op.toNat (f place).n.toNat (f place).s place looks stk
def bU (cnt place steps:Nat):Nat:=if cnt≤place then steps else if steps=2000 then steps else steps+1
theorem MAt.qN {w:World}{b:Nat}{cv:Value}{m:Mst}(h:MAt w b cv m)(n:Nat):MAt (w.drewN n) b cv m:=h.bel (below_drewN br n)
theorem Only.qN {b:Nat}{u w:World}(h:Only b u w)(n:Nat):Only b u (w.drewN n):=h.bel (below_drewN br n)
theorem oT (b:Nat)(cv:Value)(m:Mst)(op n here looks:Nat)(t:ByteArray)(stk:List ByteArray)(w:World)(hM:MAt w b cv m)(hR:Rep m.S stk)(hz:m.size=stk.length)(hl:stk.length≤50)(hp:m.place=here+1)
  (hle:∀ x∈stk,x.size≤2000) (hn:n≤2000) (hh:here≤2000) (hP:Pow w) (hPb:2<b) (hlk:m.looks=looks) (hl2:looks≤200) (h1:1≤op) (h15:op≤15) (hb:dB op stk=true) :
  Calls Tryz.prog 206 #[.pointer (some ⟨b,0,none⟩),.agg #[.int .i64 op,.string t,.int .i64 n],.int .i64 here] w fun e w'=>e=.returned (.tuple #[])∧(∃ m',MAt w' b cv m'∧After m m' (bY op n t here looks stk))∧Only b w w':=by
 simp only [dB,decide_eq_true_eq] at hb
 obtain ⟨hb1,hb2⟩:=hb
 rcases (show op=1∨op=2∨op=3∨op=4∨op=5∨op=6∨op=7∨op=8∨op=9∨op=10∨op=11∨op=12∨op=13∨op=14∨op=15 by omega) with rfl | rfl | rfl | rfl | rfl | rfl | rfl | rfl | rfl | rfl | rfl | rfl | rfl | rfl | rfl
 all_goals simp only [aB,bi] at hb1 hb2
 ·exact xf b cv m n here t stk w hM hR hz hl hp (by simp at hb2;omega)
 ·match stk,hb1 with
  | x :: y :: r,_=>exact xg b cv m n here t x y r w hM hR hz hl hp hh hP hPb (hle x (by simp)) (hle y (by simp))
 ·match stk,hb1 with
  | x :: r,_=>exact xh b cv m n here t x r w hM hR hz hl hp (hle x (by simp))
 ·match stk,hb1 with
  | x :: r,_=>exact xj b cv m n here t x r w hM hR hz hl hp (hle x (by simp))
 ·match stk,hb1 with
  | x :: r,_=>exact xk b cv m n here t x r w hM hR hz hl hp (hle x (by simp)) hn
 ·match stk,hb1 with
  | x :: y :: r,_=>exact xl b cv m n here t x y r w hM hR hz hl hp
 ·match stk,hb1 with
  | x :: r,_=>exact xm b cv m n here t x r w hM hR hz hl hp (by simp at hb2;omega)
 ·match stk,hb1 with
  | x :: y :: r,_=>exact xn b cv m n here t x y r w hM hR hz hl hp
 ·match stk,hb1 with
  | x :: r,_=>exact xo b cv m n here t x r w hM hR hz hl hp
 ·exact wD b cv m n here t stk w hM hR hz
 ·match stk,hb1 with
  | x :: r,_=>exact wE b cv m n here t x r w hM hR hz hl hp
 ·match stk,hb1 with
  | x :: r,_=>exact wF b cv m n here t x r w hM hR hz hl hh hP hPb looks hlk hl2
 ·match stk,hb1 with
  | x :: r,_=>exact wG b cv m n here t x r w hM hR hz hl hh hP hPb looks hlk hl2
 ·match stk,hb1 with
  | x :: r,_=>exact wH b cv m n here t x r w hM hR hz hl
 ·match stk,hb1 with
  | x :: r,_=>exact wI b cv m n here t x r w hM hR hz hl
theorem uh (b:Nat)(cv:Value)(m:Mst)(op:Nat)(stk:List ByteArray)(w:World)(hM:MAt w b cv m)(hT:Tab2 w)(h1:1≤op)(h2:op≤15)(hz:m.size=stk.length)(hl:stk.length≤50) :
  Calls Tryz.prog 205 #[.pointer (some ⟨b,0,none⟩),.int .i64 op] w fun e w'=>e=.returned (.bool (dB op stk))∧Below w.heap.size w w':=by
 have:=bears_any b cv m op w hM hT (by omega) (by omega) (by omega)
 rw [hz] at this
 exact this
structure Env (w:World)(b pb po cnt:Nat)(f:Nat→Ins):Prop where
 row:RowIns w pb po cnt f
 tab:Tab2 w
 pow:Pow w
 pbb:pb<b
 tbb:0<b
 pwb:2<b
theorem Env.below {w w':World}{b pb po cnt:Nat}{f:Nat→Ins}(h:Env w b pb po cnt f)(hb:Below b w w'):Env w' b pb po cnt f :=
 ⟨⟨ll h.row.1 hb.size,fun i hi=>(h.row.2 i hi).below hb h.pbb⟩,h.tab.below hb h.tbb,h.pow.low hb h.pwb,h.pbb,h.tbb,h.pwb⟩
theorem Env.only {w w':World}{b pb po cnt:Nat}{f:Nat→Ins}(h:Env w b pb po cnt f)(hl:b<w.heap.size)(hb:Only b w w'):Env w' b pb po cnt f:=h.below (hb.below lr (Nat.le_of_lt hl))
structure Sim (m:Mst)(place steps looks:Nat)(stk:List ByteArray):Prop where
 rep:Rep m.S stk
 size:m.size=stk.length
 len:stk.length≤50
 hpl:m.place=place
 hst:m.steps=steps
 hlk:m.looks=looks
 le:∀ x∈stk,x.size≤2000
 pl:place≤2000
 st:steps≤2000
 lk:looks≤200
theorem ui (b pb po cnt cap place steps looks:Nat)(f:Nat→Ins)(m:Mst)(stk:List ByteArray)(w:World)(hM:MAt w b (.slice (some ⟨pb,po,none⟩) cnt cap) m)(hS:Sim m place steps looks stk)(hE:Env w b pb po cnt f)(hok:cG f cnt=true) :
  Calls Tryz.prog 164 #[.pointer (some ⟨b,0,none⟩)] w fun e w'=>e=.returned (.tuple #[]) ∧
   (∃ m',MAt w' b (.slice (some ⟨pb,po,none⟩) cnt cap) m'∧After { m with steps:=bU cnt place steps,place:=place+1 } m' (bq f cnt place steps looks stk))∧Only b w w':=by
 have HM:=ae hM
 have HE:=ae hE
 have HS:=ae hS
 have hlt:=hM.lt
 have hpl:=hS.pl
 have hst:=hS.st
 obtain ⟨c1,z1⟩:=hM.fld 51 (.slice (some ⟨pb,po,none⟩) cnt cap) (by omega) (by simp [Mst.F])
 obtain ⟨c2,z2⟩:=hM.fld 52 (.int .i64 place) (by omega) (by simp [Mst.F,hS.hpl])
 obtain ⟨c3,z3⟩:=hM.fld 53 (.int .i64 steps) (by omega) (by simp [Mst.F,hS.hst])
 clear hM hE hS
 by_cases h1:cnt≤place
 ·have e1:bq f cnt place steps looks stk=.inr (.inl (2,(cH place))):=by simp [bq,h1]
  have e2:bU cnt place steps=steps:=by simp [bU,h1]
  rw [e1,e2]
  clear e1 e2
  go_enter Tryz.func164,Tryz.ntmps164
  go_wp2_with fail
  go_quiet (fail)
  have HM0:=ae (HM.out.qN nq)
  have HE0:=ae (HE.out.only hlt ((Only.refl b w).qN nq))
  have HO0:=ae ((Only.refl b w).qN nq)
  clear c1 z1 c2 z2 c3 z3
  generalize w.drewN nq=W at HM0 HE0 HO0 ⊢
  obtain ⟨c2,z2⟩:=HM0.out.fld 52 (.int .i64 place) (by omega) (by simp [Mst.F,HS.out.hpl])
  obtain ⟨c3,z3⟩:=HM0.out.fld 53 (.int .i64 steps) (by omega) (by simp [Mst.F,HS.out.hst])
  go_wp2_with fail
  refine (gj b _ m place _ HM0.out hpl HE0.out.pow).mono ?_
  rintro e w1 ⟨rfl,hM1,hB1⟩
  have HM1:=ae hM1
  have HB1:=ae (HO0.out.trans hB1)
  clear hM1 hB1
  go_wp2
  refine kT rfl rfl ?_
  exact ⟨rfl,⟨_,HM1.out,HS.out.hst,by rw [HS.out.hst]⟩,HB1.out⟩
 ·have h1':(place:Int)<cnt:=by omega
  by_cases h2:steps=2000
  ·have e1:bq f cnt place steps looks stk=.inr (.inl (3,⟨#[]⟩)):=by simp [bq,h1,h2]
   have e2:bU cnt place steps=steps:=by simp [bU,h1,h2]
   rw [e1,e2]
   clear e1 e2
   have h2':((steps:Int) == 2000)=true:=by simp;omega
   go_enter Tryz.func164,Tryz.ntmps164
   go_wp2_with fail
   go_quiet (fail)
   have HM0:=ae (HM.out.qN nq)
   have HE0:=ae (HE.out.only hlt ((Only.refl b w).qN nq))
   have HO0:=ae ((Only.refl b w).qN nq)
   clear c1 z1 c2 z2 c3 z3
   generalize w.drewN nq=W at HM0 HE0 HO0 ⊢
   obtain ⟨c2,z2⟩:=HM0.out.fld 52 (.int .i64 place) (by omega) (by simp [Mst.F,HS.out.hpl])
   obtain ⟨c3,z3⟩:=HM0.out.fld 53 (.int .i64 steps) (by omega) (by simp [Mst.F,HS.out.hst])
   go_wp2_with fail
   refine (fc b _ m _ _ _ HM0.out).mono ?_
   rintro e w1 ⟨rfl,hM1,hB1⟩
   have HM1:=ae hM1
   have HB1:=ae (HO0.out.trans hB1)
   clear hM1 hB1
   go_wp2
   refine kT rfl rfl ?_
   exact ⟨rfl,⟨_,HM1.out,HS.out.hst,by rw [HS.out.hst]⟩,HB1.out⟩
  ·have h2':((steps:Int) == 2000)=false:=by simp;omega
   have e2:bU cnt place steps=steps+1:=by simp [bU,h1,h2]
   have hi:=jd hok (show place<cnt by omega)
   simp only [bT,decide_eq_true_eq] at hi
   obtain ⟨i1,i2,i3,i4,i5⟩:=hi
   obtain ⟨op,hop⟩:=Int.eq_ofNat_of_zero_le (show 0≤(f place).op by omega)
   obtain ⟨n,hn⟩:=Int.eq_ofNat_of_zero_le i4
   have e1:bq f cnt place steps looks stk=if dB op stk=false then .inr (.inl (2,(cH place))) else bY op n (f place).s place looks stk:=by
    simp only [bq,h1,h2,if_false,hop,hn,Int.toNat_natCast]
   rw [e1,e2]
   obtain ⟨R,hR⟩:∃ R:Res,R=(if dB op stk=false then .inr (.inl (2,(cH place))) else bY op n (f place).s place looks stk):=⟨_,rfl⟩
   rw [← hR]
   have HQ:=ae hR
   clear hR
   have hmt:cX (f place).op≤2000:=by unfold cX;split<;>(try split)<;>omega
   have hn2:n≤2000:=by omega
   have ho1:1≤op:=by omega
   have ho2:op≤15:=by omega
   have HA:Hid (AtIns w pb po place (f place)):=HE.out.row.2 place (by omega)
   clear e1 e2 hmt i1 i2 i3 i4 i5
   go_enter Tryz.func164,Tryz.ntmps164
   go_wp2_with fail
   go_quiet (fail)
   have HM0:=ae (HM.out.qN nq)
   have HE0:=ae (HE.out.only hlt ((Only.refl b w).qN nq))
   have HO0:=ae ((Only.refl b w).qN nq)
   clear c1 z1 c2 z2 c3 z3
   generalize w.drewN nq=W at HM0 HE0 HO0 ⊢
   obtain ⟨c2,z2⟩:=HM0.out.fld 52 (.int .i64 place) (by omega) (by simp [Mst.F,HS.out.hpl])
   obtain ⟨c3,z3⟩:=HM0.out.fld 53 (.int .i64 steps) (by omega) (by simp [Mst.F,HS.out.hst])
   obtain ⟨c1,z1⟩:=HM0.out.fld 51 (.slice (some ⟨pb,po,none⟩) cnt cap) (by omega) (by simp [Mst.F])
   go_wp2_with fail
   have HM1:=ae ((HM0.out.setSteps ((steps:Int)+1)).setPlace ((place:Int)+1))
   have HO1:=ae (bC (bC HO0.out 53 (.int .i64 ((steps:Int)+1))) 52 (.int .i64 ((place:Int)+1)))
   clear c1 z1 c2 z2 c3 z3 HM0 HO0 HE0
   generalize (W.setCell ⟨b,53,none⟩ (.int .i64 ((steps:Int)+1))).setCell ⟨b,52,none⟩ (.int .i64 ((place:Int)+1))=V at HM1 HO1 ⊢
   have HE1:=ae (HE.out.only hlt HO1.out)
   obtain ⟨c1,z1⟩:=HM1.out.fld 51 (.slice (some ⟨pb,po,none⟩) cnt cap) (by omega) (by simp [Mst.F])
   obtain ⟨a0,a1,a2⟩:=HE1.out.row.2 place (by omega)
   rw [hop] at a0
   rw [hn] at a2
   obtain ⟨MM,hMM⟩:∃ MM:Mst,MM={ m with steps:=(steps:Int)+1,place:=(place:Int)+1 }:=⟨_,rfl⟩
   rw [← hMM] at HM1
   have k1:MM.size=stk.length:=by rw [hMM];exact HS.out.size
   have HMM:=ae hMM
   have hll:=HS.out.len
   clear hMM
   go_region_with (go_at_call 205;refine (uh b (.slice (some ⟨pb,po,none⟩) cnt cap) MM op stk _ ?_ ?_ ho1 ho2 k1 hll).mono ?_;(first | exact HM1.out | exact HM1.out.drew | exact HM1.out.drew.drew);(first | exact HE1.out.tab | exact (HE1.out.below br.drew).tab);rintro e w1 ⟨rfl,hB1⟩;have HM2:Hid (MAt w1 b (.slice (some ⟨pb,po,none⟩) cnt cap) MM):=MAt.bel (by first | exact HM1.out | exact HM1.out.drew | exact HM1.out.drew.drew) hB1;have HO2:Hid (Only b w w1):=Only.bel (by repeat (first | exact HO1.out | apply Only.drew)) hB1;clear hB1)
   all_goals
    have HE2:=ae (HE.out.only hlt HO2.out)
    obtain ⟨g1,y1⟩:=HM2.out.fld 51 (.slice (some ⟨pb,po,none⟩) cnt cap) (by omega) (by simp [Mst.F])
    obtain ⟨b0,b1,b2⟩:=HE2.out.row.2 place (by omega)
    rw [hop] at b0
    rw [hn] at b2
    clear c1 z1 a0 a1 a2 HM1 HO1
    have hlt1:=HM2.out.lt
    cases hbr:dB op stk with
    | false =>
     rw [if_pos hbr] at HQ
     go_wp2_with fail
     refine (gj b _ MM place _ HM2.out hpl HE2.out.pow).mono ?_
     rintro e w2 ⟨rfl,hM3,hB3⟩
     have HM3:=ae hM3
     have HO3:=ae (HO2.out.trans hB3)
     clear hM3 hB3
     go_wp2
     refine kT rfl rfl ?_
     refine ⟨rfl,⟨_,HM3.out,?_⟩,HO3.out⟩
     rw [HMM.out,HQ.out]
     exact ⟨by simp,by simp⟩
    | true =>
     rw [if_neg (by simp [hbr])] at HQ
     go_wp2_with fail
     refine (oT b (.slice (some ⟨pb,po,none⟩) cnt cap) MM op n place looks (f place).s stk _ ?_ ?_ k1 hll ?_ ?_ hn2 hpl ?_ ?_ ?_ ?_ ho1 ho2 hbr).mono ?_
     ·exact HM2.out
     ·rw [HMM.out];exact HS.out.rep
     ·rw [HMM.out]
     ·exact HS.out.le
     ·exact HE2.out.pow
     ·exact HE2.out.pwb
     ·rw [HMM.out];exact HS.out.hlk
     ·exact HS.out.lk
     rintro e w2 ⟨rfl,hM3,hB3⟩
     have HM3:=ae hM3
     have HO3:=ae (HO2.out.trans hB3)
     clear hM3 hB3
     go_wp2
     refine cB rfl rfl ?_
     obtain ⟨m',h1,h2⟩:=HM3.out
     refine ⟨rfl,⟨m',h1,?_⟩,HO3.out⟩
     rw [HQ.out]
     rw [HMM.out] at h2
     exact h2
theorem nM (l:List UInt8)(n:Nat):(bF l n).length≤l.length:=by
 induction n generalizing l with
 | zero =>
  rw [bF]
  have h1:=dJ l be
  have h2:((l.dropWhile be).takeWhile (fun c=>!be c)).length≤(l.dropWhile be).length:=(List.takeWhile_sublist _).length_le
  omega
 | succ n ih =>
  rw [bF]
  split
  ·simp
  ·have h1:=dJ l be
   have h2:=dJ (l.dropWhile be) (fun c=>!be c)
   have h3:=ih ((l.dropWhile be).dropWhile (fun c=>!be c))
   omega
theorem km (s:ByteArray)(n:Nat):(dI s n).size≤s.size:=nM s.data.toList n
def lf (res:Res)(looks:Nat):Prop:=match res with
 | .inl (stk,p)=>stk.length≤50∧(∀ x∈stk,x.size≤2000)∧p≤2000
 | .inr (.inl (_,_))=>True
 | .inr (.inr (_,name,stk))=>stk.length<50∧(∀ x∈stk,x.size≤2000)∧au name=true∧looks<200
theorem fH (op n here looks:Nat)(t:ByteArray)(stk:List ByteArray)(hl:stk.length≤50)(hle:∀ x∈stk,x.size≤2000)(ht:t.size≤2000)(hn:n≤2000)(hh:here<2000)(hlk:looks≤200)(h1:1≤op)(h15:op≤15)(hb:dB op stk=true):lf (bY op n t here looks stk) looks:=by
 have lookFine:∀ ask a r,stk=a :: r→lf (dV ask a r here looks) looks:=by
  intro ask a r e
  subst e
  simp only [List.length_cons] at hl
  unfold dV
  split
  ·trivial
  ·rename_i h1
   split
   ·trivial
   ·rename_i h2
    exact ⟨by omega,fun x hx=>hle x (by simp [hx]),by simpa using h1,by omega⟩
 simp only [dB,decide_eq_true_eq] at hb
 obtain ⟨hb1,hb2⟩:=hb
 rcases (show op=1∨op=2∨op=3∨op=4∨op=5∨op=6∨op=7∨op=8∨op=9∨op=10∨op=11∨op=12∨op=13∨op=14∨op=15 by omega) with rfl | rfl | rfl | rfl | rfl | rfl | rfl | rfl | rfl | rfl | rfl | rfl | rfl | rfl | rfl
 all_goals simp only [aB,bi] at hb1 hb2
 ·refine ⟨by simp at hb2 ⊢;omega,fun x hx=>?_,by omega⟩
  rcases List.mem_cons.1 hx with rfl | hx
  ·exact ht
  ·exact hle x hx
 ·match stk,hb1 with
  | x :: y :: r,_ =>
   show lf (if y.size+x.size≤2000 then _ else _) _
   split
   ·refine ⟨by simp at hl ⊢;omega,fun z hz=>?_,by omega⟩
    rcases List.mem_cons.1 hz with rfl | hz
    ·simp;omega
    ·exact hle z (by simp [hz])
   ·trivial
 ·match stk,hb1 with
  | x :: r,_ =>
   refine ⟨hl,fun z hz=>?_,by omega⟩
   have hx:=hle x (by simp)
   rcases List.mem_cons.1 hz with rfl | hz
   ·split
    ·simp;omega
    ·exact hx
   ·exact hle z (by simp [hz])
 ·match stk,hb1 with
  | x :: r,_ =>
   refine ⟨hl,fun z hz=>?_,by omega⟩
   have hx:=hle x (by simp)
   rcases List.mem_cons.1 hz with rfl | hz
   ·split
    ·simp;omega
    ·decide
   ·exact hle z (by simp [hz])
 ·match stk,hb1 with
  | x :: r,_ =>
   refine ⟨hl,fun z hz=>?_,by omega⟩
   rcases List.mem_cons.1 hz with rfl | hz
   ·exact Nat.le_trans (km _ _) (hle x (by simp))
   ·exact hle z (by simp [hz])
 ·match stk,hb1 with
  | x :: y :: r,_ =>
   refine ⟨by simp at hl ⊢;omega,fun z hz=>?_,by omega⟩
   rcases List.mem_cons.1 hz with rfl | hz
   ·unfold cY
    split<;>decide
   ·exact hle z (by simp [hz])
 ·match stk,hb1 with
  | x :: r,_ =>
   refine ⟨by simp at hb2 ⊢;omega,fun z hz=>?_,by omega⟩
   rcases List.mem_cons.1 hz with rfl | hz
   ·exact hle _ (by simp)
   ·exact hle z hz
 ·match stk,hb1 with
  | x :: y :: r,_ =>
   refine ⟨hl,fun z hz=>?_,by omega⟩
   simp only [List.mem_cons] at hz
   exact hle z (by simp only [List.mem_cons];rcases hz with h | h | h<;>simp [h])
 ·match stk,hb1 with
  | x :: r,_=>exact ⟨by simp at hl;omega,fun z hz=>hle z (by simp [hz]),by omega⟩
 ·exact ⟨hl,hle,hn⟩
 ·match stk,hb1 with
  | x :: r,_ =>
   refine ⟨by simp at hl;omega,fun z hz=>hle z (by simp [hz]),?_⟩
   split<;>omega
 ·match stk,hb1 with
  | x :: r,_=>exact lookFine true x r rfl
 ·match stk,hb1 with
  | x :: r,_=>exact lookFine false x r rfl
 ·match stk,hb1 with
  | x :: r,_=>trivial
 ·match stk,hb1 with
  | x :: r,_=>trivial
theorem qX {f:Nat→Ins}{cnt place steps looks:Nat}{stk:List ByteArray}{m:Mst}(hS:Sim m place steps looks stk)(hok:cG f cnt=true)(hc:cnt≤200):lf (bq f cnt place steps looks stk) looks:=by
 unfold bq
 split
 ·trivial
 ·rename_i h1
  split
  ·trivial
  ·split
   ·trivial
   ·rename_i h3
    have hi:=jd hok (show place<cnt by omega)
    simp only [bT,decide_eq_true_eq] at hi
    obtain ⟨i1,i2,i3,i4,i5⟩:=hi
    have hmt:cX (f place).op≤2000:=by unfold cX;split<;>(try split)<;>omega
    have hmt2:bI (f place).op≤2000:=by unfold bI;split<;>omega
    exact fH _ _ _ _ _ _ hS.len hS.le (by omega) (by omega) (by omega) hS.lk (by omega) (by omega) (by simpa using h3)
abbrev Halt:=(Int × ByteArray × Nat) ⊕ (Bool × ByteArray × List ByteArray × Nat × Nat × Nat)
def gX (f:Nat→Ins)(cnt:Nat):Nat→Nat→Nat→Nat→List ByteArray→Option Halt
 | 0,_,_,_,_=>none
 | k+1,place,steps,looks,stk=>match bq f cnt place steps looks stk with
  | .inr (.inl (c,x))=>some (.inl (c,x,(bU cnt place steps)))
  | .inr (.inr (a,nm,s))=>some (.inr (a,nm,s,(place+1),(bU cnt place steps),(looks+1)))
  | .inl (s,p)=>gX f cnt k p (bU cnt place steps) looks s
theorem fY {f:Nat→Ins}{cnt place steps looks:Nat}{stk s:List ByteArray}{p:Nat}(h:bq f cnt place steps looks stk=.inl (s,p)):bU cnt place steps=steps+1∧steps≠2000:=by
 unfold bq at h
 unfold bU
 split at h
 ·cases h
 ·split at h
  ·cases h
  ·rename_i h1 h2
   rw [if_neg h1,if_neg h2]
   exact ⟨rfl,h2⟩
theorem iQ (f:Nat→Ins)(cnt:Nat)(k:Nat):∀ place steps looks stk,steps≤2000→2001≤k+steps→∃ h,gX f cnt k place steps looks stk=some h:=by
 induction k with
 | zero=>intro _ _ _ _ h1 h2;omega
 | succ k ih =>
  intro place steps looks stk h1 h2
  rw [gX]
  rcases hr:bq f cnt place steps looks stk with ⟨s,p⟩ | ⟨c,x⟩ | ⟨a,nm,s⟩
  ·obtain ⟨e1,e2⟩:=fY hr
   simp only [e1]
   exact ih _ _ _ _ (by omega) (by omega)
  ·exact ⟨_,rfl⟩
  ·exact ⟨_,rfl⟩
def dq (m:Mst):Halt→Prop
 | .inl (c,x,k)=>m.t=⟨true,c,x,false,⟨#[]⟩,k⟩
 | .inr (a,nm,s,p,k,l)=>m.t=⟨false,0,⟨#[]⟩,a,nm,k⟩∧Sim m p k l s∧au nm=true∧s.length<50
theorem jj (b pb po cnt cap:Nat)(f:Nat→Ins)(m:Mst)(H:Halt)(w:World)(hM:MAt w b (.slice (some ⟨pb,po,none⟩) cnt cap) m)(hE:Env w b pb po cnt f)(hc:cnt≤200)(hok:cG f cnt=true)
  (hH:(m.t=bw∧∃ p k l s,Sim m p k l s∧gX f cnt (2001 - k) p k l s=some H)∨dq m H) :
  Calls Tryz.prog 106 #[.pointer (some ⟨b,0,none⟩)] w fun e w'=>∃ m',e=.returned m'.t.v∧MAt w' b (.slice (some ⟨pb,po,none⟩) cnt cap) m'∧dq m' H∧Only b w w':=by
 have HM:=ae hM
 have HE:=ae hE
 have HH:=ae hH
 have hlt:=hM.lt
 clear hM hE hH
 have HM0:=ae (HM.out.al (.cells #[.bool false,.int .i64 0,.string ⟨#[]⟩,.bool false,.string ⟨#[]⟩,.int .i64 0] 70))
 have hw0:w.heap.size<(w.alloc (.cells #[.bool false,.int .i64 0,.string ⟨#[]⟩,.bool false,.string ⟨#[]⟩,.int .i64 0] 70)).heap.size:=by simp
 have HW0:=ae ((Only.refl b w).al (.cells #[.bool false,.int .i64 0,.string ⟨#[]⟩,.bool false,.string ⟨#[]⟩,.int .i64 0] 70))
 have hr0:∀ j,j<6→∃ v,(w.alloc (.cells #[.bool false,.int .i64 0,.string ⟨#[]⟩,.bool false,.string ⟨#[]⟩,.int .i64 0] 70)).cell? ⟨w.heap.size,j,none⟩=some v∧(w.alloc (.cells #[.bool false,.int .i64 0,.string ⟨#[]⟩,.bool false,.string ⟨#[]⟩,.int .i64 0] 70)).frozen? ⟨w.heap.size,j,none⟩=false:=by
  intro j hj
  rcases (show j=0∨j=1∨j=2∨j=3∨j=4∨j=5 by omega) with rfl | rfl | rfl | rfl | rfl | rfl
  all_goals exact ⟨_,by simp;rfl,by simp⟩
 have HR0:=ae hr0
 clear hr0
 go_enter Tryz.func106,Tryz.ntmps106
 go_wp2
 generalize w.alloc (.cells #[.bool false,.int .i64 0,.string ⟨#[]⟩,.bool false,.string ⟨#[]⟩,.int .i64 0] 70)=w0 at HM0 hw0 HW0 HR0 ⊢
 go_loopg [] 2002 (fun g wr=>∃ m',MAt wr b (.slice (some ⟨pb,po,none⟩) cnt cap) m'∧Only b w0 wr∧((m'.t=bw∧∃ p k l s,Sim m' p k l s∧gX f cnt (2001 - k) p k l s=some H∧2002 - k≤g)∨dq m' H))
 case atStart =>
  refine ⟨m,HM0.out,Only.refl _ _,?_⟩
  rcases HH.out with ⟨h1,p,k,l,s,h2,h3⟩ | h
  ·exact .inl ⟨h1,p,k,l,s,h2,h3,by omega⟩
  ·exact .inr h
 case round =>
  obtain ⟨m',hM,hO,hc2⟩:=hrel
  have HM1:=ae hM
  have HO1:=ae hO
  obtain ⟨⟨c5,z5⟩,⟨c6,z6⟩,⟨c7,z7⟩,⟨c8,z8⟩,⟨c9,z9⟩,c10,z10⟩:=hM.turn
  clear hM hO
  rcases hc2 with ⟨ht,p,k,l,s,hS,hr,hg⟩ | hst
  ·have HS1:=ae hS
   have HR1:=ae hr
   have hk:=hS.st
   rw [ht] at c5 c6 c7 c8 c9 c10
   simp only [bw] at c5 c6 c7 c8 c9 c10
   have HT1:=ae ht
   clear hS hr ht
   go_wp2_with fail
   refine (ui b pb po cnt cap p k l f m' s _ HM1.out HS1.out (HE.out.only hlt (HW0.out.trans HO1.out)) hok).mono ?_
   rintro e w1 ⟨rfl,⟨m2,hM2,hA⟩,hB2⟩
   have HM2:=ae hM2
   have HA:=ae hA
   have HO2:=ae (HO1.out.trans hB2)
   clear hM2 hA hB2 c5 c6 c7 c8 c9 c10 z5 z6 z7 z8 z9 z10
   obtain ⟨g,rfl⟩:∃ g,gk=g+1:=⟨gk - 1,by omega⟩
   go_wp2
   go_roundg g
   case measure=>omega
   case rel =>
    refine ⟨m2,HM2.out,HO2.out,?_⟩
    have hR:=HR1.out
    have hF:=qX HS1.out hok hc
    obtain ⟨j,hj⟩:∃ j,2001 - k=j+1:=⟨2000 - k,by omega⟩
    rw [hj,gX] at hR
    have hA:=HA.out
    rcases hst:bq f cnt p k l s with ⟨s2,p2⟩ | ⟨c,x⟩ | ⟨a,nm,s2⟩
    ·rw [hst] at hR hA hF
     obtain ⟨e1,e2⟩:=fY hst
     obtain ⟨a1,a2,a3,a4,a5,a6⟩:=hA
     obtain ⟨f1,f2,f3⟩:=hF
     simp only [e1] at hR a1
     refine .inl ⟨by rw [a6];exact HT1.out,p2,k+1,l,s2,⟨a2,a3,f1,a4,a1,by rw [a5];exact HS1.out.hlk,f2,f3,by omega,HS1.out.lk⟩,?_,by omega⟩
     rw [show 2001 - (k+1)=j by omega]
     exact hR
    ·rw [hst] at hR hA hF
     simp only [Option.some.injEq] at hR
     subst hR
     exact .inr hA.2
    ·rw [hst] at hR hA hF
     simp only [Option.some.injEq] at hR
     subst hR
     obtain ⟨a1,a2,a3,a4,a5,a6⟩:=hA
     obtain ⟨f1,f2,f3,f4⟩:=hF
     have hN:bU cnt p k≤2000∧p+1≤2000:=by
      unfold bq at hst
      unfold bU
      split at hst
      ·cases hst
      ·split at hst
       ·cases hst
       ·rename_i h1 h2
        rw [if_neg h1,if_neg h2]
        omega
     exact .inr ⟨a6,⟨a2,a3,by omega,by rw [a4];simp,a1,by rw [a5];show m'.looks+1=_;rw [HS1.out.hlk];simp,f2,hN.2,hN.1,by omega⟩,f3,f1⟩
  ·have HST:=ae hst
   rcases H with ⟨c,x,k⟩ | ⟨a,nm,s2,p2,k2,l2⟩
   ·have ht:m'.t=⟨true,c,x,false,⟨#[]⟩,k⟩:=hst
    rw [ht] at c5 c6 c7 c8 c9 c10
    obtain ⟨v0,q0,y0⟩:=HR0.out 0 (by omega)
    obtain ⟨v1,q1,y1⟩:=HR0.out 1 (by omega)
    obtain ⟨v2,q2,y2⟩:=HR0.out 2 (by omega)
    obtain ⟨v3,q3,y3⟩:=HR0.out 3 (by omega)
    obtain ⟨v4,q4,y4⟩:=HR0.out 4 (by omega)
    obtain ⟨v5,q5,y5⟩:=HR0.out 5 (by omega)
    rw [← HO1.out.cell w.heap.size _ hw0 (by omega)] at q0 q1 q2 q3 q4 q5
    rw [← HO1.out.frozen w.heap.size _ hw0 (by omega)] at y0 y1 y2 y3 y4 y5
    go_wp2
    refine bodyPost_ret (v:=m'.t.v) (by rw [ht];simp [results,Tryz.results106,go_sem,Turn.v,q0,q1,q2,q3,q4,q5]) rfl ?_
    refine ⟨m',rfl,?_,HST.out,?_⟩
    ·exact (((((HM1.out.other _ _ _ (by omega)).other _ _ _ (by omega)).other _ _ _ (by omega)).other _ _ _ (by omega)).other _ _ _ (by omega)).other _ _ _ (by omega)
    ·exact ((((((HW0.out.trans HO1.out).setNew _ _ _ lr).setNew _ _ _ lr).setNew _ _ _ lr).setNew _ _ _ lr).setNew _ _ _ lr).setNew _ _ _ lr 
   ·obtain ⟨ht,hS,hn,hl⟩:=hst
    rw [ht] at c5 c6 c7 c8 c9 c10
    have hne:nm.toList.isEmpty=false:=by
     have h0:¬ nm.size=0:=by
      simp only [au,Bool.and_eq_true,decide_eq_true_eq] at hn
      omega
     have:=iG h0
     cases h:nm.toList with
     | nil=>exact absurd h this
     | cons _ _=>rfl
    clear hS hn hl
    obtain ⟨v0,q0,y0⟩:=HR0.out 0 (by omega)
    obtain ⟨v1,q1,y1⟩:=HR0.out 1 (by omega)
    obtain ⟨v2,q2,y2⟩:=HR0.out 2 (by omega)
    obtain ⟨v3,q3,y3⟩:=HR0.out 3 (by omega)
    obtain ⟨v4,q4,y4⟩:=HR0.out 4 (by omega)
    obtain ⟨v5,q5,y5⟩:=HR0.out 5 (by omega)
    rw [← HO1.out.cell w.heap.size _ hw0 (by omega)] at q0 q1 q2 q3 q4 q5
    rw [← HO1.out.frozen w.heap.size _ hw0 (by omega)] at y0 y1 y2 y3 y4 y5
    go_wp2
    refine bodyPost_ret (v:=m'.t.v) (by rw [ht];simp [results,Tryz.results106,go_sem,Turn.v,q0,q1,q2,q3,q4,q5]) rfl ?_
    refine ⟨m',rfl,?_,HST.out,?_⟩
    ·exact (((((HM1.out.other _ _ _ (by omega)).other _ _ _ (by omega)).other _ _ _ (by omega)).other _ _ _ (by omega)).other _ _ _ (by omega)).other _ _ _ (by omega)
    ·exact ((((((HW0.out.trans HO1.out).setNew _ _ _ lr).setNew _ _ _ lr).setNew _ _ _ lr).setNew _ _ _ lr).setNew _ _ _ lr).setNew _ _ _ lr 
def dx (c:Int)(x:ByteArray)(k:Nat):Turn:=⟨true,c,x,false,⟨#[]⟩,k⟩
def jk (a:Bool)(nm:ByteArray)(k:Nat):Turn:=⟨false,0,⟨#[]⟩,a,nm,k⟩
def b9 (f:Nat→Ins)(cnt:Nat)(y:Nat→aw)(n:Nat):Nat→Nat→Nat→Nat→List ByteArray→Turn
 | 0,_,_,_,_=>bw
 | k+1,place,steps,looks,stk=>match bq f cnt place steps looks stk with
  | .inr (.inl (c,x))=>dx c x (bU cnt place steps)
  | .inl (s,p)=>b9 f cnt y n k p (bU cnt place steps) looks s
  | .inr (.inr (a,nm,s))=>if n≤looks then jk a nm (bU cnt place steps)
    else if a=false then b9 f cnt y n k (place+1) (bU cnt place steps) (looks+1) (cY (y looks).has :: s)
    else if (y looks).has=false then dx 4 nm (bU cnt place steps)
    else if (y looks).code=0 then b9 f cnt y n k (place+1) (bU cnt place steps) (looks+1) ((y looks).text :: s)
    else dx 5 nm (bU cnt place steps)
def cU (f:Nat→Ins)(cnt:Nat)(y:Nat→aw)(n:Nat):Halt→Turn
 | .inl (c,x,k)=>dx c x k
 | .inr (a,nm,s,p,k,l)=>if n≤l - 1 then jk a nm k
   else if a=false then b9 f cnt y n (2001 - k) p k l (cY (y (l - 1)).has :: s)
   else if (y (l - 1)).has=false then dx 4 nm k
   else if (y (l - 1)).code=0 then b9 f cnt y n (2001 - k) p k l ((y (l - 1)).text :: s)
   else dx 5 nm k
def ej (looks:Nat):Halt→Prop
 | .inl (_,_,_)=>True
 | .inr (_,_,_,_,_,l)=>l=looks+1
theorem gY {f:Nat→Ins}{cnt place steps looks:Nat}{stk s:List ByteArray}{a:Bool}{nm:ByteArray}(h:bq f cnt place steps looks stk=.inr (.inr (a,nm,s))):bU cnt place steps=steps+1∧steps≠2000:=by
 unfold bq at h
 unfold bU
 split at h
 ·cases h
 ·split at h
  ·cases h
  ·rename_i h1 h2
   rw [if_neg h1,if_neg h2]
   exact ⟨rfl,h2⟩
theorem gZ (f:Nat→Ins)(cnt:Nat)(y:Nat→aw)(n:Nat)(k:Nat):∀ place steps looks stk H,steps≤2000→2001 - steps=k→gX f cnt k place steps looks stk=some H →
  b9 f cnt y n k place steps looks stk=cU f cnt y n H∧ej looks H:=by
 induction k with
 | zero=>intro _ _ _ _ _ h1 h2;omega
 | succ k ih =>
  intro place steps looks stk H h1 h2 hr
  rw [gX] at hr
  rw [b9]
  rcases hs:bq f cnt place steps looks stk with ⟨s,p⟩ | ⟨c,x⟩ | ⟨a,nm,s⟩
  ·obtain ⟨e1,e2⟩:=fY hs
   rw [hs] at hr
   simp only [e1] at hr ⊢
   exact ih _ _ _ _ _ (by omega) (by omega) hr
  ·rw [hs] at hr
   simp only [Option.some.injEq] at hr
   subst hr
   exact ⟨rfl,trivial⟩
  ·obtain ⟨e1,e2⟩:=gY hs
   rw [hs] at hr
   simp only [Option.some.injEq] at hr
   subst hr
   simp only [cU,e1,Nat.add_sub_cancel,show 2001 - (steps+1)=k by omega]
   exact ⟨trivial,rfl⟩
def bv (r:aw):Bool:=decide (r.text.size≤2000∧0≤r.code∧r.code≤7)
def aZ (y:Nat→aw):Nat→Bool
 | 0=>true
 | k+1=>aZ y k && bv (y k)
theorem gG {y:Nat→aw}{k n:Nat}(h:k≤n)(hn:aZ y n=true):aZ y k=true:=by
 induction n with
 | zero =>
  obtain rfl:k=0:=by omega
  exact hn
 | succ m ih =>
  by_cases e:k=m+1
  ·subst e;exact hn
  ·simp only [aZ,Bool.and_eq_true] at hn
   exact ih (by omega) hn.1
theorem cV {y:Nat→aw}{k n:Nat}(h:k<n)(hk:bv (y k)=false):aZ y n=false:=by
 cases e:aZ y n with
 | false=>rfl
 | true =>
  have h2:=gG (show k+1≤n by omega) e
  simp [aZ,hk] at h2
theorem nN {y:Nat→aw}{k n:Nat}(h:aZ y n=true)(hk:k<n):(y k).text.size≤2000∧0≤(y k).code∧(y k).code≤7:=by
 have:=gG (show k+1≤n by omega) h
 simp only [aZ,Bool.and_eq_true,bv,decide_eq_true_eq] at this
 exact this.2
theorem wJ (w W1:World)(cs:Array Value)(ty:TypeId)(T:Obj)(j:Nat)(v:Value)(hz:W1.heap.size=w.heap.size)(hv:cs[j]?=some v):((W1.alloc (.cells cs ty)).alloc T).cell? ⟨w.heap.size,j,none⟩=some v:=by
 rw [← hz,((Below.refl (W1.alloc (.cells cs ty)).heap.size _).alloc lr T).cell (p:=⟨W1.heap.size,j,none⟩) (by simp)]
 simp [hv]
def fJ (m:Mst)(c:Int):Turn:=⟨true,c,m.t.name,false,⟨#[]⟩,m.steps⟩
theorem kq (b:Nat)(cv:Value)(m:Mst)(x:Bool)(c:Int)(t:ByteArray)(w:World)(hM:MAt w b cv m)(ha:m.t.ask=false)(hs:m.size<50) :
  Calls Tryz.prog 107 #[.pointer (some ⟨b,0,none⟩),.agg #[.bool x,.int .i64 c,.string t]] w fun e w'=>e=.returned (.tuple #[]) ∧
   MAt w' b cv { m with t:=bw,S:=upd m.S m.size (cY x),size:=m.size+1 }∧Only b w w':=by
 have HM:=ae hM
 have hlt:=hM.lt
 obtain ⟨⟨c5,z5⟩,⟨c6,z6⟩,⟨c7,z7⟩,⟨c8,z8⟩,⟨c9,z9⟩,c10,z10⟩:=hM.turn
 rw [ha] at c8
 have HM1:Hid (MAt ((((((((w.setCell ⟨b,55,none⟩ (.bool false)).setCell ⟨b,56,none⟩ (.int .i64 0)).setCell ⟨b,57,none⟩ (.string ⟨#[]⟩)).setCell ⟨b,58,none⟩ (.bool false)).setCell ⟨b,59,none⟩ (.string ⟨#[]⟩)).setCell ⟨b,60,none⟩ (.int .i64 0)).alloc (.cells #[.bool x,.int .i64 c,.string t] 75)).alloc (.cells #[.bool m.t.over,.int .i64 m.t.code,.string m.t.text,.bool false,.string m.t.name,.int .i64 m.t.steps] 70)) b cv { m with t:=bw }):=ae (((HM.out.setTurn bw).al _).al _)
 have HO1:Hid (Only b w ((((((((w.setCell ⟨b,55,none⟩ (.bool false)).setCell ⟨b,56,none⟩ (.int .i64 0)).setCell ⟨b,57,none⟩ (.string ⟨#[]⟩)).setCell ⟨b,58,none⟩ (.bool false)).setCell ⟨b,59,none⟩ (.string ⟨#[]⟩)).setCell ⟨b,60,none⟩ (.int .i64 0)).alloc (.cells #[.bool x,.int .i64 c,.string t] 75)).alloc (.cells #[.bool m.t.over,.int .i64 m.t.code,.string m.t.text,.bool false,.string m.t.name,.int .i64 m.t.steps] 70))):=ae (((jR (Only.refl b w) bw).al _).al _)
 have q0:((((((((w.setCell ⟨b,55,none⟩ (.bool false)).setCell ⟨b,56,none⟩ (.int .i64 0)).setCell ⟨b,57,none⟩ (.string ⟨#[]⟩)).setCell ⟨b,58,none⟩ (.bool false)).setCell ⟨b,59,none⟩ (.string ⟨#[]⟩)).setCell ⟨b,60,none⟩ (.int .i64 0)).alloc (.cells #[.bool x,.int .i64 c,.string t] 75)).alloc (.cells #[.bool m.t.over,.int .i64 m.t.code,.string m.t.text,.bool false,.string m.t.name,.int .i64 m.t.steps] 70)).cell? ⟨w.heap.size,0,none⟩=some (.bool x):=wJ w _ _ _ _ _ _ (by simp) rfl
 clear hM
 go_enter Tryz.func107,Tryz.ntmps107
 go_wp2_with fail
 clear c5 c6 c7 c8 c9 c10 z5 z6 z7 z8 z9 z10
 generalize ((((((((w.setCell ⟨b,55,none⟩ (.bool false)).setCell ⟨b,56,none⟩ (.int .i64 0)).setCell ⟨b,57,none⟩ (.string ⟨#[]⟩)).setCell ⟨b,58,none⟩ (.bool false)).setCell ⟨b,59,none⟩ (.string ⟨#[]⟩)).setCell ⟨b,60,none⟩ (.int .i64 0)).alloc (.cells #[.bool x,.int .i64 c,.string t] 75)).alloc (.cells #[.bool m.t.over,.int .i64 m.t.code,.string m.t.text,.bool false,.string m.t.name,.int .i64 m.t.steps] 70))=W at HM1 HO1 q0 ⊢
 go_region_with (first | (go_at_call 166;refine (lI _ _).mono ?_;rintro e w1 ⟨rfl,hw1⟩;subst hw1) | (go_at_call 165;refine (cS b cv { m with t:=bw } _ _ ?_ hs).mono ?_;(first | exact HM1.out | exact HM1.out.drew | exact HM1.out.drew.drew);rintro e w2 ⟨rfl,hM2,hB2⟩;have HM2:=ae hM2;have HO2:Hid (Only b w w2):=Only.trans (by repeat (first | exact HO1.out | apply Only.drew)) hB2;clear hM2 hB2))
 all_goals
  go_wp2
  refine cB rfl rfl ?_
  exact ⟨rfl,HM2.out,HO2.out⟩
theorem ku (b:Nat)(cv:Value)(m:Mst)  (t:ByteArray)(w:World)(hM:MAt w b cv m)(ha:m.t.ask=true)(hs:m.size<50) :
  Calls Tryz.prog 107 #[.pointer (some ⟨b,0,none⟩),.agg #[.bool true,.int .i64 0,.string t]] w fun e w'=>e=.returned (.tuple #[]) ∧
   MAt w' b cv { m with t:=bw,S:=upd m.S m.size t,size:=m.size+1 }∧Only b w w':=by
 have HM:=ae hM
 have hlt:=hM.lt
 obtain ⟨⟨c5,z5⟩,⟨c6,z6⟩,⟨c7,z7⟩,⟨c8,z8⟩,⟨c9,z9⟩,c10,z10⟩:=hM.turn
 rw [ha] at c8
 have HM1:Hid (MAt ((((((((w.setCell ⟨b,55,none⟩ (.bool false)).setCell ⟨b,56,none⟩ (.int .i64 0)).setCell ⟨b,57,none⟩ (.string ⟨#[]⟩)).setCell ⟨b,58,none⟩ (.bool false)).setCell ⟨b,59,none⟩ (.string ⟨#[]⟩)).setCell ⟨b,60,none⟩ (.int .i64 0)).alloc (.cells #[.bool true,.int .i64 0,.string t] 75)).alloc (.cells #[.bool m.t.over,.int .i64 m.t.code,.string m.t.text,.bool true,.string m.t.name,.int .i64 m.t.steps] 70)) b cv { m with t:=bw }):=ae (((HM.out.setTurn bw).al _).al _)
 have HO1:Hid (Only b w ((((((((w.setCell ⟨b,55,none⟩ (.bool false)).setCell ⟨b,56,none⟩ (.int .i64 0)).setCell ⟨b,57,none⟩ (.string ⟨#[]⟩)).setCell ⟨b,58,none⟩ (.bool false)).setCell ⟨b,59,none⟩ (.string ⟨#[]⟩)).setCell ⟨b,60,none⟩ (.int .i64 0)).alloc (.cells #[.bool true,.int .i64 0,.string t] 75)).alloc (.cells #[.bool m.t.over,.int .i64 m.t.code,.string m.t.text,.bool true,.string m.t.name,.int .i64 m.t.steps] 70))):=ae (((jR (Only.refl b w) bw).al _).al _)
 have q2:((((((((w.setCell ⟨b,55,none⟩ (.bool false)).setCell ⟨b,56,none⟩ (.int .i64 0)).setCell ⟨b,57,none⟩ (.string ⟨#[]⟩)).setCell ⟨b,58,none⟩ (.bool false)).setCell ⟨b,59,none⟩ (.string ⟨#[]⟩)).setCell ⟨b,60,none⟩ (.int .i64 0)).alloc (.cells #[.bool true,.int .i64 0,.string t] 75)).alloc (.cells #[.bool m.t.over,.int .i64 m.t.code,.string m.t.text,.bool true,.string m.t.name,.int .i64 m.t.steps] 70)).cell? ⟨w.heap.size,2,none⟩=some (.string t):=wJ w _ _ _ _ _ _ (by simp) rfl
 clear hM
 go_enter Tryz.func107,Tryz.ntmps107
 go_wp2_with fail
 clear c5 c6 c7 c8 c9 c10 z5 z6 z7 z8 z9 z10
 generalize ((((((((w.setCell ⟨b,55,none⟩ (.bool false)).setCell ⟨b,56,none⟩ (.int .i64 0)).setCell ⟨b,57,none⟩ (.string ⟨#[]⟩)).setCell ⟨b,58,none⟩ (.bool false)).setCell ⟨b,59,none⟩ (.string ⟨#[]⟩)).setCell ⟨b,60,none⟩ (.int .i64 0)).alloc (.cells #[.bool true,.int .i64 0,.string t] 75)).alloc (.cells #[.bool m.t.over,.int .i64 m.t.code,.string m.t.text,.bool true,.string m.t.name,.int .i64 m.t.steps] 70))=W at HM1 HO1 q2 ⊢
 go_region_with (go_at_call 165;refine (cS b cv { m with t:=bw } _ _ ?_ hs).mono ?_;(first | exact HM1.out | exact HM1.out.drew | exact HM1.out.drew.drew);rintro e w2 ⟨rfl,hM2,hB2⟩;have HM2:=ae hM2;have HO2:Hid (Only b w w2):=Only.trans (by repeat (first | exact HO1.out | apply Only.drew)) hB2;clear hM2 hB2)
 all_goals
  go_wp2
  refine cB rfl rfl ?_
  exact ⟨rfl,HM2.out,HO2.out⟩
theorem gH (b:Nat)(cv:Value)(m:Mst)(c:Int)(t:ByteArray)(w:World)(hM:MAt w b cv m)(ha:m.t.ask=true) :
  Calls Tryz.prog 107 #[.pointer (some ⟨b,0,none⟩),.agg #[.bool false,.int .i64 c,.string t]] w fun e w'=>e=.returned (.tuple #[]) ∧
   MAt w' b cv { m with t:=fJ m 4 }∧Only b w w':=by
 have HM:=ae hM
 have hlt:=hM.lt
 obtain ⟨⟨c5,z5⟩,⟨c6,z6⟩,⟨c7,z7⟩,⟨c8,z8⟩,⟨c9,z9⟩,c10,z10⟩:=hM.turn
 rw [ha] at c8
 have HM1:Hid (MAt ((((((((w.setCell ⟨b,55,none⟩ (.bool false)).setCell ⟨b,56,none⟩ (.int .i64 0)).setCell ⟨b,57,none⟩ (.string ⟨#[]⟩)).setCell ⟨b,58,none⟩ (.bool false)).setCell ⟨b,59,none⟩ (.string ⟨#[]⟩)).setCell ⟨b,60,none⟩ (.int .i64 0)).alloc (.cells #[.bool false,.int .i64 c,.string t] 75)).alloc (.cells #[.bool m.t.over,.int .i64 m.t.code,.string m.t.text,.bool true,.string m.t.name,.int .i64 m.t.steps] 70)) b cv { m with t:=bw }):=ae (((HM.out.setTurn bw).al _).al _)
 have HO1:Hid (Only b w ((((((((w.setCell ⟨b,55,none⟩ (.bool false)).setCell ⟨b,56,none⟩ (.int .i64 0)).setCell ⟨b,57,none⟩ (.string ⟨#[]⟩)).setCell ⟨b,58,none⟩ (.bool false)).setCell ⟨b,59,none⟩ (.string ⟨#[]⟩)).setCell ⟨b,60,none⟩ (.int .i64 0)).alloc (.cells #[.bool false,.int .i64 c,.string t] 75)).alloc (.cells #[.bool m.t.over,.int .i64 m.t.code,.string m.t.text,.bool true,.string m.t.name,.int .i64 m.t.steps] 70))):=ae (((jR (Only.refl b w) bw).al _).al _)
 clear hM
 go_enter Tryz.func107,Tryz.ntmps107
 go_wp2_with fail
 clear c5 c6 c7 c8 c9 c10 z5 z6 z7 z8 z9 z10
 generalize ((((((((w.setCell ⟨b,55,none⟩ (.bool false)).setCell ⟨b,56,none⟩ (.int .i64 0)).setCell ⟨b,57,none⟩ (.string ⟨#[]⟩)).setCell ⟨b,58,none⟩ (.bool false)).setCell ⟨b,59,none⟩ (.string ⟨#[]⟩)).setCell ⟨b,60,none⟩ (.int .i64 0)).alloc (.cells #[.bool false,.int .i64 c,.string t] 75)).alloc (.cells #[.bool m.t.over,.int .i64 m.t.code,.string m.t.text,.bool true,.string m.t.name,.int .i64 m.t.steps] 70))=W at HM1 HO1  ⊢
 refine (fc b cv { m with t:=bw } _ _ _ HM1.out).mono ?_
 rintro e w2 ⟨rfl,hM2,hB2⟩
 have HM2:=ae hM2
 have HO2:Hid (Only b w w2):=HO1.out.trans hB2
 clear hM2 hB2
 all_goals
  go_wp2
  refine cB rfl rfl ?_
  exact ⟨rfl,HM2.out,HO2.out⟩
theorem iR (b:Nat)(cv:Value)(m:Mst)(c:Int)(t:ByteArray)(w:World)(hM:MAt w b cv m)(ha:m.t.ask=true)(hc:(c == 0)=false) :
  Calls Tryz.prog 107 #[.pointer (some ⟨b,0,none⟩),.agg #[.bool true,.int .i64 c,.string t]] w fun e w'=>e=.returned (.tuple #[]) ∧
   MAt w' b cv { m with t:=fJ m 5 }∧Only b w w':=by
 have HM:=ae hM
 have hlt:=hM.lt
 obtain ⟨⟨c5,z5⟩,⟨c6,z6⟩,⟨c7,z7⟩,⟨c8,z8⟩,⟨c9,z9⟩,c10,z10⟩:=hM.turn
 rw [ha] at c8
 have HM1:Hid (MAt ((((((((w.setCell ⟨b,55,none⟩ (.bool false)).setCell ⟨b,56,none⟩ (.int .i64 0)).setCell ⟨b,57,none⟩ (.string ⟨#[]⟩)).setCell ⟨b,58,none⟩ (.bool false)).setCell ⟨b,59,none⟩ (.string ⟨#[]⟩)).setCell ⟨b,60,none⟩ (.int .i64 0)).alloc (.cells #[.bool true,.int .i64 c,.string t] 75)).alloc (.cells #[.bool m.t.over,.int .i64 m.t.code,.string m.t.text,.bool true,.string m.t.name,.int .i64 m.t.steps] 70)) b cv { m with t:=bw }):=ae (((HM.out.setTurn bw).al _).al _)
 have HO1:Hid (Only b w ((((((((w.setCell ⟨b,55,none⟩ (.bool false)).setCell ⟨b,56,none⟩ (.int .i64 0)).setCell ⟨b,57,none⟩ (.string ⟨#[]⟩)).setCell ⟨b,58,none⟩ (.bool false)).setCell ⟨b,59,none⟩ (.string ⟨#[]⟩)).setCell ⟨b,60,none⟩ (.int .i64 0)).alloc (.cells #[.bool true,.int .i64 c,.string t] 75)).alloc (.cells #[.bool m.t.over,.int .i64 m.t.code,.string m.t.text,.bool true,.string m.t.name,.int .i64 m.t.steps] 70))):=ae (((jR (Only.refl b w) bw).al _).al _)
 clear hM
 go_enter Tryz.func107,Tryz.ntmps107
 go_wp2_with fail
 clear c5 c6 c7 c8 c9 c10 z5 z6 z7 z8 z9 z10
 generalize ((((((((w.setCell ⟨b,55,none⟩ (.bool false)).setCell ⟨b,56,none⟩ (.int .i64 0)).setCell ⟨b,57,none⟩ (.string ⟨#[]⟩)).setCell ⟨b,58,none⟩ (.bool false)).setCell ⟨b,59,none⟩ (.string ⟨#[]⟩)).setCell ⟨b,60,none⟩ (.int .i64 0)).alloc (.cells #[.bool true,.int .i64 c,.string t] 75)).alloc (.cells #[.bool m.t.over,.int .i64 m.t.code,.string m.t.text,.bool true,.string m.t.name,.int .i64 m.t.steps] 70))=W at HM1 HO1  ⊢
 refine (fc b cv { m with t:=bw } _ _ _ HM1.out).mono ?_
 rintro e w2 ⟨rfl,hM2,hB2⟩
 have HM2:=ae hM2
 have HO2:Hid (Only b w w2):=HO1.out.trans hB2
 clear hM2 hB2
 all_goals
  go_wp2
  refine cB rfl rfl ?_
  exact ⟨rfl,HM2.out,HO2.out⟩
theorem kw (a:Option Addr)(n cap:Nat)(w:World)(h:200<(n:Int)) :
  Calls Tryz.prog 105 #[.slice a n cap] w fun e w'=>e=.returned (.bool false)∧Below w.heap.size w w':=by
 go_enter Tryz.func105,Tryz.ntmps105
 go_wp2
 go_ret
 exact ⟨rfl,Below.refl _ _⟩
theorem fZ (b off n cap:Nat)(y:Nat→aw)(w:World)(h2:(n:Int)≤200)(hY:RowReply w b off n y) :
  Calls Tryz.prog 105 #[.slice (some ⟨b,off,none⟩) n cap] w fun e w'=>e=.returned (.bool (aZ y n))∧Below w.heap.size w w':=by
 have HY:=ae hY
 clear hY
 go_enter Tryz.func105,Tryz.ntmps105
 go_wp2
 go_loopw [10] (fun i wr=>∃ k:Nat,k≤n∧i=.int .i64 k∧aZ y k=true∧Below w.heap.size w wr) (fun i _=>n - (intOf i).toNat)
 case atStart=>exact ⟨0,by omega,rfl,rfl,Below.refl _ _⟩
 case round =>
  obtain ⟨k,hk,rfl,hok,hB⟩:=hrel
  have HB:=ae hB
  have HK:=ae hok
  have hsz:w.heap.size≤wr.heap.size:=hB.size
  clear hB hok
  by_cases hlt:k<n
  ·obtain ⟨c0,c1,c2⟩:=(HY.out.2 k hlt).below HB.out HY.out.1
   by_cases g1:((y k).text.size:Int)≤2000
   ·by_cases g2:0≤(y k).code
    ·by_cases g3:(y k).code≤7
     ·go_wp2
      exact ⟨⟨k+1,by omega,by go_num,by simp only [aZ,HK.out,bv,Bool.true_and,decide_eq_true_eq];omega,HB.out.alloc hsz _⟩,by simp [intOf];omega⟩
     ·go_wp2
      go_ret
      exact ⟨aQ (by rw [cV hlt (by simp only [bv,decide_eq_false_iff_not];omega)]),HB.out.alloc hsz _⟩
    ·go_wp2
     go_ret
     exact ⟨aQ (by rw [cV hlt (by simp only [bv,decide_eq_false_iff_not];omega)]),HB.out.alloc hsz _⟩
   ·go_wp2
    go_ret
    exact ⟨aQ (by rw [cV hlt (by simp only [bv,decide_eq_false_iff_not];omega)]),HB.out.alloc hsz _⟩
  ·have e:k=n:=by omega
   subst e
   go_wp2
   go_ret
   exact ⟨aQ HK.out.symm,HB.out⟩
end Go.Proofs.YtkophfgkcijjkaaGreatDoor.Vp
