import Derived.Test.YtfnbojfnelfnkaaGreatDoorZN
import Derived.Test.YtfnbojfnelfnkaaGreatDoorZI
import Derived.Test.YtfnbojfnelfnkaaGreatDoorZC
import Derived.Test.YtfnbojfnelfnkaaGreatDoorZJ
namespace Go.Proofs.YtfnbojfnelfnkaaGreatDoor.Vp
open Go.RowKit Go.Proofs.YtfnbojfnelfnkaaGreatDoor.Ca
def lnkV (x:Link):List Value:=[.string x.name,.bool x.ask,.bool x.has,.int .i64 x.at_]
def lnkL (f:Nat→Link)(n:Nat):List Value:=((List.range n).map f).flatMap lnkV
theorem linkL_at (f:Nat→Link){n i:Nat}(hi:i<n)(j:Nat)(hj:j<4):(lnkL f n)[i*4+j]?=(lnkV (f i))[j]? :=
 flat_at lnkV 4 (fun _=>rfl) _ i j hj (f i) (by simp [hi])
theorem cu_blk {w w':World}{base size n:Nat}{e:TypeId}{v:Value}{xs:List Value}(h:w.ownsRow base e size v n xs)(hb:∀ k,v.ownBlock=some k→OfTy w k e→w'.heap[k]?=w.heap[k]?):w'.ownsRow base e size v n xs:=by
 refine ⟨h.1,?_⟩
 rcases h.2 with hn | ⟨g,cap,cur,rfl,hb',hgg,rest⟩
 ·exact .inl hn
 ·exact .inr ⟨g,cap,cur,rfl,hb',(hb g rfl ⟨cur,_,hgg⟩).trans hgg,rest⟩
theorem cu_ty {w:World}{base size n:Nat}{e:TypeId}{v:Value}{xs:List Value}(h:w.ownsRow base e size v n xs):∀ k,v.ownBlock=some k→OfTy w k e:=by
 intro k hk
 rcases h.2 with ⟨rfl,_⟩ | ⟨g,cap,cur,rfl,_,hg,_⟩
 ·simp [Value.ownBlock] at hk
 ·simp [Value.ownBlock] at hk
  subst hk
  exact ⟨cur,_,hg⟩
theorem cu_some {w:World}{base size n:Nat}{e:TypeId}{v:Value}{xs:List Value}(h:w.ownsRow base e size v n xs)(hn:0<n):∃ g cap,v=.slice (some ⟨g,0,none⟩) n cap:=by
 rcases h.2 with ⟨_,h2⟩ | ⟨g,c,cur,h1,_⟩
 ·omega
 ·exact ⟨g,c,h1⟩
theorem cu_slice {w:World}{base size n:Nat}{e:TypeId}{v:Value}{xs:List Value}(h:w.ownsRow base e size v n xs):∃ a cap,v=.slice a n cap:=by
 rcases h.2 with ⟨h1,h2⟩ | ⟨g,c,cur,h1,_⟩
 ·exact ⟨none,0,by rw [h1,h2]⟩
 ·exact ⟨_,_,h1⟩
abbrev DR:=Deed × Value × Value
def ddV (r:DR):List Value:=[.string r.1.name,.int .i64 r.1.kind,.int .i64 r.1.code,.string r.1.text,r.2.1,r.2.2]
structure DSub (w:World)(base:Nat)(r:DR):Prop where
 act:w.ownsRow base 162 3 r.2.1 r.1.actN (insL r.1.act r.1.actN)
 lnk:w.ownsRow base 151 4 r.2.2 r.1.linksN (lnkL r.1.links r.1.linksN)
def Apt (a b:Value):Prop:=a.ownBlock=none∨a.ownBlock≠b.ownBlock
structure DRow (w:World)(base:Nat)(v:Value)(R:List DR):Prop where
 own:w.ownsRow base 86 6 v R.length (R.flatMap ddV)
 sub:∀ r∈R,DSub w base r
 up:R.Pairwise fun a b=>Apt a.2.1 b.2.1∧Apt a.2.2 b.2.2
theorem DSub.blk {w w':World}{base:Nat}{r:DR}(h:DSub w base r)(hb:∀ k,OfTy w k 162∨OfTy w k 151→base≤k→w'.heap[k]?=w.heap[k]?):DSub w' base r :=
 ⟨cu_blk h.act fun k hk ht=>hb k (.inl ht) (h.act.lt k hk).1,cu_blk h.lnk fun k hk ht=>hb k (.inr ht) (h.lnk.lt k hk).1⟩
theorem DSub.below {w w':World}{base B:Nat}{r:DR}(h:DSub w base r)(hb:Below B w w')(hB:w.heap.size≤B):DSub w' base r:=⟨own_below h.act hb hB,own_below h.lnk hb hB⟩
theorem DSub.mono {w:World}{base base':Nat}{r:DR}(h:DSub w base r)(hb:base'≤base):DSub w base' r:=⟨own_mono h.act hb,own_mono h.lnk hb⟩
theorem DRow.blk {w w':World}{base:Nat}{v:Value}{R:List DR}(h:DRow w base v R)(hb:∀ k,OfTy w k 162∨OfTy w k 151∨OfTy w k 86→base≤k→w'.heap[k]?=w.heap[k]?):DRow w' base v R :=
 ⟨cu_blk h.own fun k hk ht=>hb k (.inr (.inr ht)) (h.own.lt k hk).1,fun r hr=>(h.sub r hr).blk fun k hk=>hb k (hk.imp id .inl),h.up⟩
theorem DRow.below {w w':World}{base B:Nat}{v:Value}{R:List DR}(h:DRow w base v R)(hb:Below B w w')(hB:w.heap.size≤B):DRow w' base v R :=
 ⟨own_below h.own hb hB,fun r hr=>(h.sub r hr).below hb hB,h.up⟩
theorem DRow.mono {w:World}{base base':Nat}{v:Value}{R:List DR}(h:DRow w base v R)(hb:base'≤base):DRow w base' v R:=⟨own_mono h.own hb,fun r hr=>(h.sub r hr).mono hb,h.up⟩
theorem DRow.set {w:World}{base:Nat}{v:Value}{R:List DR}(h:DRow w base v R){p:Addr}{e:TypeId}(hp:p.block<base∨(OfTy w p.block e∧e≠162∧e≠151∧e≠86))(u:Value):DRow (w.setCell p u) base v R :=
 h.blk fun k hk hb=>Below.heap_setCell _ _ _ _ (fun x=>by
  subst x
  rcases hp with hp | ⟨ht,h1,h2,h3⟩
  ·omega
  ·rcases hk with hk | hk | hk
   ·exact ht.ne (Ne.symm h1) hk
   ·exact ht.ne (Ne.symm h2) hk
   ·exact ht.ne (Ne.symm h3) hk)
theorem dRow_nil (w:World)(base:Nat):DRow w base (.slice none 0 0) []:=⟨World.ownsRow_nil _ _ _ _,fun r hr=>absurd hr (by simp),List.Pairwise.nil⟩
theorem DRow.more {w w1 w2:World}{base:Nat}{v v':Value}{R:List DR}{r:DR}(h:DRow w base v R)(h1:DRow w1 base v R)(hbase:base≤w.heap.size)(hS:DSub w1 w.heap.size r)
  (hown:w2.ownsRow base 86 6 v' (R.length+1) (R.flatMap ddV++ddV r)) (hgr:w1.grownBy w2 v.ownBlock):DRow w2 base v' (R++[r]):=by
 have hne:∀ k,OfTy w1 k 162∨OfTy w1 k 151→some k≠v.ownBlock:=fun k hk e=>by
  have ht:=cu_ty h1.own k e.symm
  rcases hk with hk | hk
  ·exact ht.ne (by decide) hk
  ·exact ht.ne (by decide) hk
 have hlt:∀ k,OfTy w1 k 162∨OfTy w1 k 151→k<w1.heap.size:=fun k hk=>by
  rcases hk with ⟨c,z,hk⟩ | ⟨c,z,hk⟩<;>exact (Array.getElem?_eq_some_iff.1 hk).1
 have keep:∀ k,OfTy w1 k 162∨OfTy w1 k 151→w2.heap[k]?=w1.heap[k]?:=fun k hk=>hgr.block k (hlt k hk) (hne k hk)
 refine ⟨by simpa using hown,fun x hx=>?_,?_⟩
 ·rcases List.mem_append.1 hx with hx | hx
  ·exact (h1.sub x hx).blk fun k hk _=>keep k hk
  ·simp at hx
   subst hx
   exact (hS.blk fun k hk _=>keep k hk).mono hbase
 ·rw [List.pairwise_append]
  refine ⟨h.up,by simp,fun a ha b hb'=>?_⟩
  simp at hb'
  subst hb'
  have hs:=h.sub a ha
  refine ⟨?_,?_⟩
  ·cases hk:a.2.1.ownBlock with
   | none=>exact .inl hk
   | some k =>
    refine .inr fun e=>?_
    have h1:=(hs.act.lt k hk).2
    have h2:=(hS.act.lt k (e ▸ hk)).1
    omega
  ·cases hk:a.2.2.ownBlock with
   | none=>exact .inl hk
   | some k =>
    refine .inr fun e=>?_
    have h1:=(hs.lnk.lt k hk).2
    have h2:=(hS.lnk.lt k (e ▸ hk)).1
    omega
theorem own_link {w:World}{base n g cap:Nat}{f:Nat→Link}(h:w.ownsRow base 151 4 (.slice (some ⟨g,0,none⟩) n cap) n (lnkL f n)):RowLink w g 0 n f:=by
 refine ⟨(own_lt h).2,fun i hi=>?_⟩
 have c:∀ j,j<4→∀ u,(lnkV (f i))[j]?=some u→w.cell? ⟨g,0+i*4+j,none⟩=some u:=fun j hj u hu=>by
  have:=(own_cell h (j:=i*4+j) (u:=u) (by rw [linkL_at f hi j hj];exact hu)).1
  rwa [show 0+i*4+j=i*4+j by omega]
 exact ⟨c 0 (by omega) _ rfl,c 1 (by omega) _ rfl,c 2 (by omega) _ rfl,c 3 (by omega) _ rfl⟩
theorem DSub.ins {w:World}{base:Nat}{r:DR}(h:DSub w base r):∃ a cap,r.2.1=.slice a r.1.actN cap∧SlIns w a r.1.actN r.1.act:=by
 obtain ⟨a,cap,e⟩:=cu_slice h.act
 refine ⟨a,cap,e,?_⟩
 by_cases hz:r.1.actN=0
 ·exact .inl hz
 ·obtain ⟨g,c,e'⟩:=cu_some h.act (by omega)
  have ho:=h.act
  rw [e'] at ho
  rw [e] at e'
  cases e'
  exact .inr ⟨g,0,rfl,(own_ins ho).1⟩
theorem DSub.links {w:World}{base:Nat}{r:DR}(h:DSub w base r):∃ a cap,r.2.2=.slice a r.1.linksN cap∧SlLink w a r.1.linksN r.1.links:=by
 obtain ⟨a,cap,e⟩:=cu_slice h.lnk
 refine ⟨a,cap,e,?_⟩
 by_cases hz:r.1.linksN=0
 ·exact .inl hz
 ·obtain ⟨g,c,e'⟩:=cu_some h.lnk (by omega)
  have ho:=h.lnk
  rw [e'] at ho
  rw [e] at e'
  cases e'
  exact .inr ⟨g,0,rfl,own_link ho⟩
theorem drow_at {R:List DR}{i:Nat}(hi:i<R.length):∃ r,R[i]?=some r∧r∈R:=⟨R[i],List.getElem?_eq_getElem hi,List.getElem_mem hi⟩
theorem dF_at {R:List DR}{i:Nat}{r:DR}(h:R[i]?=some r):dF (R.map (·.1)) i=r.1:=by
 unfold dF
 rw [List.getD_eq_getElem?_getD,List.getElem?_map,h]
 rfl
theorem drow_cell {w:World}{base g cap:Nat}{R:List DR}(h:w.ownsRow base 86 6 (.slice (some ⟨g,0,none⟩) R.length cap) R.length (R.flatMap ddV)){i:Nat}{r:DR}(hr:R[i]?=some r)(j:Nat)(hj:j<6){u:Value}(hu:(ddV r)[j]?=some u):w.cell? ⟨g,i*6+j,none⟩=some u∧w.frozen? ⟨g,i*6+j,none⟩=false :=
 own_cell h (j:=i*6+j) (u:=u) (by rw [flat_at ddV 6 (fun _=>rfl) R i j hj r hr];exact hu)
theorem DRow.deeds {w:World}{base c:Nat}{a:Option Addr}{R:List DR}(h:DRow w base (.slice a R.length c) R):SlDeed w a R.length (dF (R.map (·.1))):=by
 by_cases hz:R.length=0
 ·exact .inl hz
 ·obtain ⟨g,c',e⟩:=cu_some h.own (by omega)
  cases e
  refine .inr ⟨g,0,rfl,(own_lt h.own).2,fun i hi=>?_⟩
  obtain ⟨r,hr,hm⟩:=drow_at hi
  rw [dF_at hr]
  have c:∀ j,j<6→∀ u,(ddV r)[j]?=some u→w.cell? ⟨g,0+i*6+j,none⟩=some u:=fun j hj u hu=>by
   rw [show 0+i*6+j=i*6+j by omega]
   exact (drow_cell h.own hr j hj hu).1
  obtain ⟨a4,c4,e4,h4⟩:=(h.sub r hm).ins
  obtain ⟨a5,c5,e5,h5⟩:=(h.sub r hm).links
  exact ⟨c 0 (by omega) _ rfl,c 1 (by omega) _ rfl,c 2 (by omega) _ rfl,c 3 (by omega) _ rfl,⟨a4,c4,by rw [← e4];exact c 4 (by omega) _ rfl,h4⟩,⟨a5,c5,by rw [← e5];exact c 5 (by omega) _ rfl,h5⟩⟩
theorem cu_cells {w:World}{base size n g cap:Nat}{e:TypeId}{xs:List Value}(h:w.ownsRow base e size (.slice (some ⟨g,0,none⟩) n cap) n xs):∃ F,Cells w g 0 (n*size) F∧∀ j,j<n*size→xs[j]?=some (F j):=by
 have hx:∀ j,j<n*size→xs[j]?=some (xs[j]?.getD undef):=fun j hj=>by
  rw [List.getElem?_eq_getElem (by rw [h.1];exact hj)]
  rfl
 refine ⟨fun j=>xs[j]?.getD undef,⟨(own_lt h).2,fun j hj=>?_⟩,hx⟩
 have:=own_cell h (hx j hj)
 rw [Nat.zero_add]
 exact this
def rAt (R:List DR)(i:Nat):DR:=R.getD i (noDeed,.slice none 0 0,.slice none 0 0)
theorem rAt_eq {R:List DR}{i:Nat}{r:DR}(h:R[i]?=some r):rAt R i=r:=by
 unfold rAt
 rw [List.getD_eq_getElem?_getD,h]
 rfl
def rA (R:List DR)(i:Nat):Nat:=((rAt R i).2.1.ownBlock).getD 0
def rL (R:List DR)(i:Nat):Nat:=((rAt R i).2.2.ownBlock).getD 0
def ra (R:List DR)(i:Nat):Nat:=(rAt R i).1.actN
def rl (R:List DR)(i:Nat):Nat:=(rAt R i).1.linksN
theorem DRow.plan {w:World}{base g c:Nat}{R:List DR}(h:DRow w base (.slice (some ⟨g,0,none⟩) R.length c) R)(hf:∀ r∈R,FitsDeed r.1) :
  DPlan g R.length (rA R) (rL R) (ra R) (rl R)∧DCells w g R.length (rA R) (rL R) (ra R) (rl R)∧∀ x,DBlk g R.length (rA R) (rL R) (ra R) (rl R) x→base≤x∧x<w.heap.size:=by
 have hg:OfTy w g 86:=cu_ty h.own g rfl
 have hA:∀ i,i<R.length→ra R i≠0→∃ cap,(rAt R i).2.1=.slice (some ⟨rA R i,0,none⟩) (ra R i) cap∧w.ownsRow base 162 3 (.slice (some ⟨rA R i,0,none⟩) (ra R i) cap) (ra R i) (insL (rAt R i).1.act (ra R i)):=by
  intro i hi hz
  obtain ⟨r,hr,hm⟩:=drow_at hi
  have ho:=(h.sub r hm).act
  unfold rA ra at *
  rw [rAt_eq hr] at hz ⊢
  obtain ⟨g',c',e⟩:=cu_some ho (by omega)
  rw [e] at ho ⊢
  exact ⟨c',rfl,ho⟩
 have hL:∀ i,i<R.length→rl R i≠0→∃ cap,(rAt R i).2.2=.slice (some ⟨rL R i,0,none⟩) (rl R i) cap∧w.ownsRow base 151 4 (.slice (some ⟨rL R i,0,none⟩) (rl R i) cap) (rl R i) (lnkL (rAt R i).1.links (rl R i)):=by
  intro i hi hz
  obtain ⟨r,hr,hm⟩:=drow_at hi
  have ho:=(h.sub r hm).lnk
  unfold rL rl at *
  rw [rAt_eq hr] at hz ⊢
  obtain ⟨g',c',e⟩:=cu_some ho (by omega)
  rw [e] at ho ⊢
  exact ⟨c',rfl,ho⟩
 have hup:∀ i j,i<j→j<R.length→Apt (rAt R i).2.1 (rAt R j).2.1∧Apt (rAt R i).2.2 (rAt R j).2.2:=by
  intro i j hij hj
  have:=List.pairwise_iff_getElem.1 h.up i j (by omega) hj hij
  rw [rAt_eq (List.getElem?_eq_getElem (by omega:i<R.length)),rAt_eq (List.getElem?_eq_getElem hj)]
  exact this
 have hfit:∀ i,i<R.length→FitsDeed (rAt R i).1:=by
  intro i hi
  obtain ⟨r,hr,hm⟩:=drow_at hi
  rw [rAt_eq hr]
  exact hf r hm
 have eachA:∀ i j,i<j→j<R.length→ra R i≠0→ra R j≠0→rA R i≠rA R j:=by
  intro i j hij hj h1 h2
  obtain ⟨c1,e1,_⟩:=hA i (by omega) h1
  obtain ⟨c2,e2,_⟩:=hA j hj h2
  have:=(hup i j hij hj).1
  rw [e1,e2] at this
  simpa [Apt,Value.ownBlock] using this
 have eachL:∀ i j,i<j→j<R.length→rl R i≠0→rl R j≠0→rL R i≠rL R j:=by
  intro i j hij hj h1 h2
  obtain ⟨c1,e1,_⟩:=hL i (by omega) h1
  obtain ⟨c2,e2,_⟩:=hL j hj h2
  have:=(hup i j hij hj).2
  rw [e1,e2] at this
  simpa [Apt,Value.ownBlock] using this
 refine ⟨⟨hfit,fun i hi=>⟨fun hz e=>?_,fun hz e=>?_⟩,fun i j hi hj hij=>⟨fun h1 h2=>?_,fun h1 h2=>?_⟩,fun i j hi hj h1 h2 e=>?_⟩,⟨?_,fun i hi hz=>?_,fun i hi hz=>?_⟩,fun x hx=>?_⟩
 ·obtain ⟨c1,_,ho⟩:=hA i hi hz
  exact (cu_ty ho _ rfl).ne (by decide) (e ▸ hg)
 ·obtain ⟨c1,_,ho⟩:=hL i hi hz
  exact (cu_ty ho _ rfl).ne (by decide) (e ▸ hg)
 ·rcases Nat.lt_or_gt_of_ne hij with hh | hh
  ·exact eachA i j hh hj h1 h2
  ·exact (eachA j i hh hi h2 h1).symm
 ·rcases Nat.lt_or_gt_of_ne hij with hh | hh
  ·exact eachL i j hh hj h1 h2
  ·exact (eachL j i hh hi h2 h1).symm
 ·obtain ⟨c1,_,ho⟩:=hA i hi h1
  obtain ⟨c2,_,ho2⟩:=hL j hj h2
  have:=cu_ty ho2 _ rfl
  exact (cu_ty ho _ rfl).ne (by decide) (e ▸ this)
 ·obtain ⟨F,hF,hx⟩:=cu_cells h.own
  refine ⟨F,hF,fun i hi=>?_⟩
  obtain ⟨r,hr,hm⟩:=drow_at hi
  have c:∀ j,j<6→∀ u,(ddV r)[j]?=some u→F (i*6+j)=u:=fun j hj u hu=>by
   have h1:=hx (i*6+j) (by omega)
   rw [flat_at ddV 6 (fun _=>rfl) R i j hj r hr,hu] at h1
   exact (Option.some.inj h1).symm
  have c4:=c 4 (by omega) _ rfl
  have c5:=c 5 (by omega) _ rfl
  refine ⟨?_,?_⟩
  ·obtain ⟨a4,d4,e4⟩:=cu_slice (h.sub r hm).act
   have era:ra R i=r.1.actN:=by unfold ra;rw [rAt_eq hr]
   refine ⟨a4,d4,by rw [c4,e4,era],fun hz=>?_⟩
   obtain ⟨c1,e1,_⟩:=hA i hi hz
   rw [rAt_eq hr,e4] at e1
   exact (Value.slice.inj e1).1
  ·obtain ⟨a5,d5,e5⟩:=cu_slice (h.sub r hm).lnk
   have erl:rl R i=r.1.linksN:=by unfold rl;rw [rAt_eq hr]
   refine ⟨a5,d5,by rw [c5,e5,erl],fun hz=>?_⟩
   obtain ⟨c1,e1,_⟩:=hL i hi hz
   rw [rAt_eq hr,e5] at e1
   exact (Value.slice.inj e1).1
 ·obtain ⟨c1,_,ho⟩:=hA i hi hz
  obtain ⟨F,hF,_⟩:=cu_cells ho
  exact ⟨F,hF⟩
 ·obtain ⟨c1,_,ho⟩:=hL i hi hz
  obtain ⟨F,hF,_⟩:=cu_cells ho
  exact ⟨F,hF⟩
 ·rcases hx with rfl | ⟨i,hi,⟨hz,rfl⟩ | ⟨hz,rfl⟩⟩
  ·exact own_lt h.own
  ·obtain ⟨c1,_,ho⟩:=hA i hi hz
   exact own_lt ho
  ·obtain ⟨c1,_,ho⟩:=hL i hi hz
   exact own_lt ho
def Mk (w:World)(a:Option Addr)(R:List DR)(q:Nat):Prop :=
 (R.length=0∧q=1)∨∃ g,a=some ⟨g,0,none⟩∧DPlan g R.length (rA R) (rL R) (ra R) (rl R)∧DMarked w g R.length (rA R) (rL R) (ra R) (rl R) 1∧q=dAt (ra R) (rl R) 1 R.length
theorem Mk.below {w w':World}{a:Option Addr}{R:List DR}{q B:Nat}(h:Mk w a R q)(hb:Below B w w')(hB:w.heap.size≤B):Mk w' a R q:=by
 rcases h with h | ⟨g,h1,h2,h3,h4⟩
 ·exact .inl h
 ·exact .inr ⟨g,h1,h2,h3.below hb hB,h4⟩
theorem held_drow {w:World}{c q:Nat}{a:Option Addr}{R:List DR}(h:Mk w a R q)(hn:(R.length:Int)≤1048576) :
  Calls Tryz.prog 19 #[.agg #[.slice a R.length c],.int .i64 1] w fun e w'=>e=.returned (.int .i64 q)∧Below w.heap.size w w':=by
 rcases h with ⟨hz,rfl⟩ | ⟨g,rfl,hP,hM,rfl⟩
 ·rw [hz]
  exact heldAccount_nil a c 1 w
 ·exact heldAccount_row g R.length c 1 _ _ _ _ w hn (by omega) (by omega) hP hM
theorem DRow.touch {w w':World}{base:Nat}{v:Value}{R:List DR}{P:Nat→Prop}(h:DRow w base v R)(ht:Touch P w w')(hP:∀ k,P k→k<base):DRow w' base v R :=
 h.blk fun k hk hb=>ht.block k (by rcases hk with ⟨c,z,hk⟩ | ⟨c,z,hk⟩ | ⟨c,z,hk⟩<;>exact (Array.getElem?_eq_some_iff.1 hk).1) (fun hp=>by have:=hP k hp;omega)
end Go.Proofs.YtfnbojfnelfnkaaGreatDoor.Vp
