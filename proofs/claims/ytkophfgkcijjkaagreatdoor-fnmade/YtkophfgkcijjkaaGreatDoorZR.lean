import Derived.Test.YtkophfgkcijjkaaGreatDoorZQ
import Derived.Test.YtkophfgkcijjkaaGreatDoorZC
namespace Go.Proofs.YtkophfgkcijjkaaGreatDoor.Vp
open RowKit Ca
def gB (x:Link):List Value:=[.string x.name,.bool x.ask,.bool x.has,.int .i64 x.at_]
def jA (f:Nat→Link)(n:Nat):List Value:=((List.range n).map f).flatMap gB
theorem tT (f:Nat→Link){n i:Nat}(hi:i<n)(j:Nat)(hj:j<4):(jA f n)[i*4+j]?=(gB (f i))[j]? :=
 cy gB 4 (fun _=>rfl) _ i j hj (f i) (by simp [hi])
theorem no {w w':World}{base size n:Nat}{e:TypeId}{v:Value}{xs:List Value}(h:w.ownsRow base e size v n xs)(hb:∀ k,v.ownBlock=some k→OfTy w k e→w'.heap[k]?=w.heap[k]?):w'.ownsRow base e size v n xs:=by
 refine ⟨h.1,?_⟩
 rcases h.2 with hn | ⟨g,cap,cur,rfl,hb',hgg,rest⟩
 ·exact .inl hn
 ·exact .inr ⟨g,cap,cur,rfl,hb',(hb g rfl ⟨cur,_,hgg⟩).trans hgg,rest⟩
theorem qK {w:World}{base size n:Nat}{e:TypeId}{v:Value}{xs:List Value}(h:w.ownsRow base e size v n xs):∀ k,v.ownBlock=some k→OfTy w k e:=by
 intro k hk
 rcases h.2 with ⟨rfl,_⟩ | ⟨g,cap,cur,rfl,_,hg,_⟩
 ·simp [Value.ownBlock] at hk
 ·simp [Value.ownBlock] at hk
  subst hk
  exact ⟨cur,_,hg⟩
theorem fg {w:World}{base size n:Nat}{e:TypeId}{v:Value}{xs:List Value}(h:w.ownsRow base e size v n xs)(hn:0<n):∃ g cap,v=.slice (some ⟨g,0,none⟩) n cap:=by
 rcases h.2 with ⟨_,h2⟩ | ⟨g,c,cur,h1,_⟩
 ·omega
 ·exact ⟨g,c,h1⟩
theorem nr {w:World}{base size n:Nat}{e:TypeId}{v:Value}{xs:List Value}(h:w.ownsRow base e size v n xs):∃ a cap,v=.slice a n cap:=by
 rcases h.2 with ⟨h1,h2⟩ | ⟨g,c,cur,h1,_⟩
 ·exact ⟨none,0,by rw [h1,h2]⟩
 ·exact ⟨_,_,h1⟩
abbrev DR:=aD × Value × Value
def ddV (r:DR):List Value:=[.string r.1.name,.int .i64 r.1.kind,.int .i64 r.1.code,.string r.1.text,r.2.1,r.2.2]
structure DSub (w:World)(base:Nat)(r:DR):Prop where
 act:w.ownsRow base 176 3 r.2.1 r.1.actN (bP r.1.act r.1.actN)
 lnk:w.ownsRow base 73 4 r.2.2 r.1.linksN (jA r.1.links r.1.linksN)
def Apt (a b:Value):Prop:=a.ownBlock=none∨a.ownBlock≠b.ownBlock
structure DRow (w:World)(base:Nat)(v:Value)(R:List DR):Prop where
 own:w.ownsRow base 67 6 v R.length (R.flatMap ddV)
 sub:∀ r∈R,DSub w base r
 up:R.Pairwise fun a b=>Apt a.2.1 b.2.1∧Apt a.2.2 b.2.2
theorem DSub.blk {w w':World}{base:Nat}{r:DR}(h:DSub w base r)(hb:∀ k,OfTy w k 176∨OfTy w k 73→base≤k→w'.heap[k]?=w.heap[k]?):DSub w' base r :=
 ⟨no h.act fun k hk ht=>hb k (.inl ht) (h.act.lt k hk).1,no h.lnk fun k hk ht=>hb k (.inr ht) (h.lnk.lt k hk).1⟩
theorem DSub.below {w w':World}{base B:Nat}{r:DR}(h:DSub w base r)(hb:Below B w w')(hB:w.heap.size≤B):DSub w' base r:=⟨own_below h.act hb hB,own_below h.lnk hb hB⟩
theorem DSub.mono {w:World}{base base':Nat}{r:DR}(h:DSub w base r)(hb:base'≤base):DSub w base' r:=⟨aT h.act hb,aT h.lnk hb⟩
theorem DRow.blk {w w':World}{base:Nat}{v:Value}{R:List DR}(h:DRow w base v R)(hb:∀ k,OfTy w k 176∨OfTy w k 73∨OfTy w k 67→base≤k→w'.heap[k]?=w.heap[k]?):DRow w' base v R :=
 ⟨no h.own fun k hk ht=>hb k (.inr (.inr ht)) (h.own.lt k hk).1,fun r hr=>(h.sub r hr).blk fun k hk=>hb k (hk.imp id .inl),h.up⟩
theorem DRow.below {w w':World}{base B:Nat}{v:Value}{R:List DR}(h:DRow w base v R)(hb:Below B w w')(hB:w.heap.size≤B):DRow w' base v R :=
 ⟨own_below h.own hb hB,fun r hr=>(h.sub r hr).below hb hB,h.up⟩
theorem DRow.mono {w:World}{base base':Nat}{v:Value}{R:List DR}(h:DRow w base v R)(hb:base'≤base):DRow w base' v R:=⟨aT h.own hb,fun r hr=>(h.sub r hr).mono hb,h.up⟩
theorem DRow.set {w:World}{base:Nat}{v:Value}{R:List DR}(h:DRow w base v R){p:Addr}{e:TypeId}(hp:p.block<base∨(OfTy w p.block e∧e≠176∧e≠73∧e≠67))(u:Value):DRow (w.setCell p u) base v R :=
 h.blk fun k hk hb=>Below.heap_setCell _ _ _ _ (fun x=>by
  subst x
  rcases hp with hp | ⟨ht,h1,h2,h3⟩
  ·omega
  ·rcases hk with hk | hk | hk
   ·exact ht.ne (Ne.symm h1) hk
   ·exact ht.ne (Ne.symm h2) hk
   ·exact ht.ne (Ne.symm h3) hk)
theorem tU (w:World)(base:Nat):DRow w base (.slice none 0 0) []:=⟨World.ownsRow_nil _ _ _ _,fun r hr=>absurd hr (by simp),List.Pairwise.nil⟩
theorem DRow.more {w w1 w2:World}{base:Nat}{v v':Value}{R:List DR}{r:DR}(h:DRow w base v R)(h1:DRow w1 base v R)(hbase:base≤w.heap.size)(hS:DSub w1 w.heap.size r)
  (hown:w2.ownsRow base 67 6 v' (R.length+1) (R.flatMap ddV++ddV r)) (hgr:w1.grownBy w2 v.ownBlock):DRow w2 base v' (R++[r]):=by
 have hne:∀ k,OfTy w1 k 176∨OfTy w1 k 73→some k≠v.ownBlock:=fun k hk e=>by
  have ht:=qK h1.own k e.symm
  rcases hk with hk | hk
  ·exact ht.ne (by decide) hk
  ·exact ht.ne (by decide) hk
 have hlt:∀ k,OfTy w1 k 176∨OfTy w1 k 73→k<w1.heap.size:=fun k hk=>by
  rcases hk with ⟨c,z,hk⟩ | ⟨c,z,hk⟩<;>exact (Array.getElem?_eq_some_iff.1 hk).1
 have keep:∀ k,OfTy w1 k 176∨OfTy w1 k 73→w2.heap[k]?=w1.heap[k]?:=fun k hk=>hgr.block k (hlt k hk) (hne k hk)
 refine ⟨by simpa using hown,fun x hx=>?_,?_⟩
 ·rcases List.mem_append.1 hx with hx | hx
  ·exact (h1.sub x hx).blk fun k hk _=>keep k hk
  ·simp at hx
   subst hx
   exact (hS.blk fun k hk _=>keep k hk).mono hbase
 ·rw [List.pairwise_append]
  refine ⟨h.up,by simp,fun a ha b hb'=>?_⟩
  simp at hb'
  subst hb'
  have hs:=h.sub a ha
  refine ⟨?_,?_⟩
  ·cases hk:a.2.1.ownBlock with
   | none=>exact .inl hk
   | some k =>
    refine .inr fun e=>?_
    have h1:=(hs.act.lt k hk).2
    have h2:=(hS.act.lt k (e ▸ hk)).1
    omega
  ·cases hk:a.2.2.ownBlock with
   | none=>exact .inl hk
   | some k =>
    refine .inr fun e=>?_
    have h1:=(hs.lnk.lt k hk).2
    have h2:=(hS.lnk.lt k (e ▸ hk)).1
    omega
theorem tV {w:World}{base n g cap:Nat}{f:Nat→Link}(h:w.ownsRow base 73 4 (.slice (some ⟨g,0,none⟩) n cap) n (jA f n)):RowLink w g 0 n f:=by
 refine ⟨(dn h).2,fun i hi=>?_⟩
 have c:∀ j,j<4→∀ u,(gB (f i))[j]?=some u→w.cell? ⟨g,0+i*4+j,none⟩=some u:=fun j hj u hu=>by
  have:=(aX h (j:=i*4+j) (u:=u) (by rw [tT f hi j hj];exact hu)).1
  rwa [show 0+i*4+j=i*4+j by omega]
 exact ⟨c 0 (by omega) _ rfl,c 1 (by omega) _ rfl,c 2 (by omega) _ rfl,c 3 (by omega) _ rfl⟩
theorem DSub.ins {w:World}{base:Nat}{r:DR}(h:DSub w base r):∃ a cap,r.2.1=.slice a r.1.actN cap∧SlIns w a r.1.actN r.1.act:=by
 obtain ⟨a,cap,e⟩:=nr h.act
 refine ⟨a,cap,e,?_⟩
 by_cases hz:r.1.actN=0
 ·exact .inl hz
 ·obtain ⟨g,c,e'⟩:=fg h.act (by omega)
  have ho:=h.act
  rw [e'] at ho
  rw [e] at e'
  cases e'
  exact .inr ⟨g,0,rfl,(jg ho).1⟩
theorem DSub.links {w:World}{base:Nat}{r:DR}(h:DSub w base r):∃ a cap,r.2.2=.slice a r.1.linksN cap∧SlLink w a r.1.linksN r.1.links:=by
 obtain ⟨a,cap,e⟩:=nr h.lnk
 refine ⟨a,cap,e,?_⟩
 by_cases hz:r.1.linksN=0
 ·exact .inl hz
 ·obtain ⟨g,c,e'⟩:=fg h.lnk (by omega)
  have ho:=h.lnk
  rw [e'] at ho
  rw [e] at e'
  cases e'
  exact .inr ⟨g,0,rfl,tV ho⟩
theorem vw {R:List DR}{i:Nat}(hi:i<R.length):∃ r,R[i]?=some r∧r∈R:=⟨R[i],List.getElem?_eq_getElem hi,List.getElem_mem hi⟩
theorem xa {R:List DR}{i:Nat}{r:DR}(h:R[i]?=some r):dF (R.map (·.1)) i=r.1:=by
 unfold dF
 rw [List.getD_eq_getElem?_getD,List.getElem?_map,h]
 rfl
theorem se {w:World}{base g cap:Nat}{R:List DR}(h:w.ownsRow base 67 6 (.slice (some ⟨g,0,none⟩) R.length cap) R.length (R.flatMap ddV)){i:Nat}{r:DR}(hr:R[i]?=some r)(j:Nat)(hj:j<6){u:Value}(hu:(ddV r)[j]?=some u):w.cell? ⟨g,i*6+j,none⟩=some u∧w.frozen? ⟨g,i*6+j,none⟩=false :=
 aX h (j:=i*6+j) (u:=u) (by rw [cy ddV 6 (fun _=>rfl) R i j hj r hr];exact hu)
theorem DRow.deeds {w:World}{base c:Nat}{a:Option Addr}{R:List DR}(h:DRow w base (.slice a R.length c) R):SlDeed w a R.length (dF (R.map (·.1))):=by
 by_cases hz:R.length=0
 ·exact .inl hz
 ·obtain ⟨g,c',e⟩:=fg h.own (by omega)
  cases e
  refine .inr ⟨g,0,rfl,(dn h.own).2,fun i hi=>?_⟩
  obtain ⟨r,hr,hm⟩:=vw hi
  rw [xa hr]
  have c:∀ j,j<6→∀ u,(ddV r)[j]?=some u→w.cell? ⟨g,0+i*6+j,none⟩=some u:=fun j hj u hu=>by
   rw [show 0+i*6+j=i*6+j by omega]
   exact (se h.own hr j hj hu).1
  obtain ⟨a4,c4,e4,h4⟩:=(h.sub r hm).ins
  obtain ⟨a5,c5,e5,h5⟩:=(h.sub r hm).links
  exact ⟨c 0 (by omega) _ rfl,c 1 (by omega) _ rfl,c 2 (by omega) _ rfl,c 3 (by omega) _ rfl,⟨a4,c4,by rw [← e4];exact c 4 (by omega) _ rfl,h4⟩,⟨a5,c5,by rw [← e5];exact c 5 (by omega) _ rfl,h5⟩⟩
def rAt (R:List DR)(i:Nat):DR:=R.getD i (rW,.slice none 0 0,.slice none 0 0)
def ra (R:List DR)(i:Nat):Nat:=(rAt R i).1.actN
def rl (R:List DR)(i:Nat):Nat:=(rAt R i).1.linksN
end Go.Proofs.YtkophfgkcijjkaaGreatDoor.Vp
