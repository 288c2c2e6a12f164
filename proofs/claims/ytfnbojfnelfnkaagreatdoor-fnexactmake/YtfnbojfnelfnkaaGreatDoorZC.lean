import Derived.RangeFuncKeeps
import Derived.RangeFuncFrom
namespace Go.Proofs.YtfnbojfnelfnkaaGreatDoor.Ca
open Go.RowKit
structure Upd (P:Nat→Prop)(w w':World):Prop where
 os:w'.os=w.os
 tape:w'.tape=w.tape
 output:w'.output=w.output
 size:w.heap.size≤w'.heap.size
 block:∀ k,k<w.heap.size→¬ P k→w'.heap[k]?=w.heap[k]?
theorem Upd.refl (P:Nat→Prop)(w:World):Upd P w w:=⟨rfl,rfl,rfl,Nat.le_refl _,fun _ _ _=>rfl⟩
theorem Upd.trans {P:Nat→Prop}{a b c:World}(h:Upd P a b)(k:Upd P b c):Upd P a c :=
 ⟨k.os.trans h.os,k.tape.trans h.tape,k.output.trans h.output,Nat.le_trans h.size k.size,fun i hi ho=>(k.block i (Nat.lt_of_lt_of_le hi h.size) ho).trans (h.block i hi ho)⟩
theorem Upd.mono {P Q:Nat→Prop}{a b:World}(h:Upd P a b)(hPQ:∀ k,P k→Q k):Upd Q a b :=
 ⟨h.os,h.tape,h.output,h.size,fun i hi ho=>h.block i hi (fun hp=>ho (hPQ i hp))⟩
theorem Upd.of_below {P:Nat→Prop}{B:Nat}{w w':World}(h:Below B w w')(hB:w.heap.size≤B):Upd P w w' :=
 ⟨h.os,h.tape,h.output,h.size,fun i hi _=>h.block i (Nat.lt_of_lt_of_le hi hB)⟩
theorem Upd.below {P:Nat→Prop}{B:Nat}{w w':World}(h:Upd P w w')(hP:∀ k,P k→B≤k)(hB:B≤w.heap.size):Below B w w' :=
 ⟨h.os,h.tape,h.output,h.size,fun k hk=>h.block k (Nat.lt_of_lt_of_le hk hB) (fun hp=>by have:=hP k hp;omega)⟩
theorem Upd.setCell {P:Nat→Prop}(w:World){p:Addr}(hp:P p.block)(v:Value):Upd P w (w.setCell p v) :=
 ⟨rfl,rfl,rfl,by simp [World.setCell],fun k _ ho=>Below.heap_setCell _ _ _ _ (fun e=>ho (e ▸ hp))⟩
def SeqT {α:Type}(F:Fence)(n:Nat)(P:Program)(g:Nat)(lb:Array Value)(encs:α→Array Value)(Ox:α→Prop)(base:Nat)(S Sp:List α→Prop)(N:Nat)(w:World):Prop :=
 ∀ (l:Nat) (J Jx:List α→World→Prop) (W:World),Below w.heap.size w W→(∀ s A B,J s A→Below W.heap.size A B→J s B)→(∀ s A B,Jx s A→Below W.heap.size A B→Jx s B) →
  (∀ pre x W1,Ox x→J pre W1→pre.length<N→W.heap.size≤W1.heap.size→YieldAt F (n - 1) P l (encs x) W1 fun e W' =>
   (e=.returned (.bool true)∧J (pre++[x]) W'∧Upd (fun k=>base≤k∧k<W.heap.size) W1 W')∨(e=.returned (.bool false)∧Jx (pre++[x]) W')) →
  J [] W →
  CallsIn F n P g (#[.func (.yield l) #[] #[]]++lb) W fun e W'=>(∃ v,e=.returned v)∧((∃ xs,S xs∧J xs W')∨(∃ pre,Sp pre∧Jx pre W'))
def OfTy (w:World)(k:Nat)(e:TypeId):Prop:=∃ c z,w.heap[k]?=some (.cells c e z)
theorem OfTy.ne {w:World}{k:Nat}{e e':TypeId}(h:OfTy w k e)(hn:e'≠e):¬ OfTy w k e':=by
 obtain ⟨c,z,h⟩:=h
 rintro ⟨c',z',h'⟩
 rw [h] at h'
 cases h'
 exact hn rfl
theorem OfTy.set {w:World}{k:Nat}{e:TypeId}(h:OfTy w k e)(p:Addr)(v:Value):OfTy (w.setCell p v) k e:=by
 obtain ⟨c,z,h⟩:=h
 by_cases hp:p.block=k
 ·subst hp
  have hlt:=(Array.getElem?_eq_some_iff.1 h).1
  have he:=(Array.getElem?_eq_some_iff.1 h).2
  exact ⟨if p.spot.isSome=true then c else c.setIfInBounds p.off v,z,by simp [World.setCell,Array.getElem?_modify,h]⟩
 ·exact ⟨c,z,(Below.heap_setCell _ _ _ _ (fun e=>hp e.symm)).trans h⟩
theorem OfTy.new (w:World)(c:Array Value)(e:TypeId):OfTy (w.alloc (.cells c e)) w.heap.size e:=⟨c,_,World.alloc_heap_new w _⟩
structure Upd2 (T:TypeId)(base n₀:Nat)(w w':World):Prop where
 os:w'.os=w.os
 tape:w'.tape=w.tape
 output:w'.output=w.output
 size:w.heap.size≤w'.heap.size
 block:∀ k,k<w.heap.size→(k<base∨(n₀≤k∧¬ OfTy w k T))→w'.heap[k]?=w.heap[k]?
theorem Upd.two {base n₀:Nat}{w w':World}(h:Upd (fun k=>base≤k∧k<n₀) w w')(T:TypeId):Upd2 T base n₀ w w':=⟨h.os,h.tape,h.output,h.size,fun k hk hp=>h.block k hk (by omega)⟩
theorem OfTy.of_eq {w w':World}{k:Nat}{e:TypeId}(h:OfTy w' k e)(hb:w'.heap[k]?=w.heap[k]?):OfTy w k e:=by
 obtain ⟨c,z,h⟩:=h
 exact ⟨c,z,hb.symm.trans h⟩
theorem Upd2.trans {T:TypeId}{base n₀:Nat}{a b c:World}(h:Upd2 T base n₀ a b)(k:Upd2 T base n₀ b c):Upd2 T base n₀ a c :=
 ⟨k.os.trans h.os,k.tape.trans h.tape,k.output.trans h.output,Nat.le_trans h.size k.size,fun i hi ho =>
  have e:=h.block i hi ho
  (k.block i (Nat.lt_of_lt_of_le hi h.size) (ho.imp id fun ⟨x,y⟩=>⟨x,fun t=>y (t.of_eq e)⟩)).trans e⟩
theorem Upd2.mono {T:TypeId}{base n₀ m:Nat}{a b:World}(h:Upd2 T base n₀ a b)(hm:n₀≤m):Upd2 T base m a b :=
 ⟨h.os,h.tape,h.output,h.size,fun i hi ho=>h.block i hi (ho.imp id fun ⟨x,y⟩=>⟨by omega,y⟩)⟩
theorem Upd2.below {T:TypeId}{base n₀:Nat}{a b:World}(h:Upd2 T base n₀ a b)(hb:base≤a.heap.size):Below base a b:=⟨h.os,h.tape,h.output,h.size,fun k hk=>h.block k (by omega) (.inl hk)⟩
theorem Upd2.of_below {T:TypeId}{base n₀ B:Nat}{w w':World}(h:Below B w w')(hB:w.heap.size≤B):Upd2 T base n₀ w w' :=
 ⟨h.os,h.tape,h.output,h.size,fun i hi _=>h.block i (Nat.lt_of_lt_of_le hi hB)⟩
theorem Upd2.setCell {T:TypeId}{base n₀:Nat}(w:World){p:Addr}(hp:base≤p.block)(ht:p.block<n₀∨OfTy w p.block T)(v:Value):Upd2 T base n₀ w (w.setCell p v) :=
 ⟨rfl,rfl,rfl,by simp [World.setCell],fun k _ ho=>Below.heap_setCell _ _ _ _ (fun e=>by
  subst e
  rcases ho with h | ⟨h,hn⟩
  ·omega
  ·exact hn (ht.resolve_left (by omega)))⟩
structure Itr (B:TypeId)(n:Nat)(w w':World):Prop where
 low:Below n w w'
 keep:∀ (k:Nat) (c:Array Value) (e:TypeId) (z:Nat × Nat),w.heap[k]?=some (Obj.cells c e z)→e≠B→w'.heap[k]?=w.heap[k]?
theorem Itr.refl (B:TypeId)(n:Nat)(w:World):Itr B n w w:=⟨Below.refl _ _,fun _ _ _ _ _ _=>rfl⟩
theorem Itr.of_below {B:TypeId}{n m:Nat}{w w':World}(h:Below m w w')(hm:w.heap.size≤m)(hn:n≤m):Itr B n w w' :=
 ⟨h.mono hn,fun k _ _ _ hk _=>h.block k (Nat.lt_of_lt_of_le (Array.getElem?_eq_some_iff.1 hk).1 hm)⟩
theorem Itr.mono {B:TypeId}{n m:Nat}{w w':World}(h:Itr B n w w')(hm:m≤n):Itr B m w w':=⟨h.low.mono hm,h.keep⟩
theorem Itr.setCell {B:TypeId}{n:Nat}(w:World){p:Addr}(hn:n≤p.block)(ht:OfTy w p.block B)(v:Value):Itr B n w (w.setCell p v) :=
 ⟨(Below.refl n w).setCell hn v,fun k c e z hk he=>Below.heap_setCell _ _ _ _ (fun h=>by
  obtain ⟨c',z',h'⟩:=ht
  rw [← h,hk] at h'
  cases h'
  exact he rfl)⟩
def SeqT2 {α:Type}(T B:TypeId)(F:Fence)(n:Nat)(P:Program)(g:Nat)(lb:Array Value)(encs:α→Array Value)(Ox:List α→α→Prop)(base:Nat)(S Sp:List α→Prop)(w:World):Prop :=
 ∀ (l:Nat) (J Jx:List α→World→Prop) (W:World),Below w.heap.size w W→(∀ s A C,J s A→Itr B W.heap.size A C→J s C)→(∀ s A C,Jx s A→Itr B W.heap.size A C→Jx s C) →
  (∀ pre x W1,Ox pre x→J pre W1→W.heap.size≤W1.heap.size→YieldAt F (n - 1) P l (encs x) W1 fun e W' =>
   (e=.returned (.bool true)∧J (pre++[x]) W'∧Upd2 T base W.heap.size W1 W')∨(e=.returned (.bool false)∧Jx (pre++[x]) W')) →
  J [] W →
  CallsIn F n P g (#[.func (.yield l) #[] #[]]++lb) W fun e W'=>(∃ v,e=.returned v)∧((∃ xs,S xs∧J xs W')∨(∃ pre,Sp pre∧Jx pre W'))
theorem YieldAt.mono2 {F:Fence}{m:Nat}{P:Program}{l:Nat}{args:Array Value}{W:World}{R R':Ending→World→Prop}(h:YieldAt F m P l args W R)(hR:∀ e W',R e W'→R' e W'):YieldAt F m P l args W R':=by
 obtain ⟨fn,tmps,assign,body,hy,hr⟩:=h
 exact ⟨fn,tmps,assign,body,hy,hr.mono hR⟩
theorem SeqT2.plain {α:Type}{T B:TypeId}{F:Fence}{n:Nat}{P:Program}{g:Nat}{lb:Array Value}{encs:α→Array Value}{Ox:List α→α→Prop}{Ox':α→Prop}{base:Nat}{S Sp:List α→Prop}{N:Nat}{w:World}(h:SeqT2 T B F n P g lb encs Ox base S Sp w)(hx:∀ pre x,Ox pre x→Ox' x∧pre.length<N):SeqT F n P g lb encs Ox' base S Sp N w :=
 fun l J Jx W hW hJ hJx hY h0=>h l J Jx W hW (fun s A C hs hi=>hJ s A C hs hi.low) (fun s A C hs hi=>hJx s A C hs hi.low) (fun pre x W1 h1 h2 h4=>YieldAt.mono2 (hY pre x W1 (hx pre x h1).1 h2 (hx pre x h1).2 h4) fun _ _ hr=>hr.imp (fun ⟨a,b,c⟩=>⟨a,b,c.two T⟩) id) h0
end Go.Proofs.YtfnbojfnelfnkaaGreatDoor.Ca
