import Derived.Test.YtkophfgkcijjkaaGreatDoorYK
import Derived.Test.YtkophfgkcijjkaaGreatDoorZM
set_option maxHeartbeats 400000
namespace Go.Proofs.YtkophfgkcijjkaaGreatDoor.Vp
open RowKit
def Pow (w:World):Prop:=Lib.TabIs Tryz.prog w "internal/strconv.uint64pow10" .u64 Lib.pow10Tab
theorem wk:Tryz.prog.globalNamed "internal/strconv.uint64pow10"=some 2:=by kernel_rfl
theorem Pow.below {w b:World}{B:Nat}(h:Pow w)(hb:Below B w b)(c:w.heap.size<=B):Pow b:=Joins.tab_stays wk h hb c
theorem Pow.low {w b:World}{B:Nat}(h:Pow w)(hb:Below B w b)(c:2<B):Pow b:=var?_below hb wk c h
def dY (n:Nat):ByteArray:=⟨(Lib.decDigits n).toArray⟩
def fe (b:Bool):ByteArray:=if b then ⟨#[49]⟩ else ⟨#[48]⟩
theorem lY (x:Bool)(w:World):Calls Tryz.prog 274 #[.bool x] w fun e b=>e=.returned (.string (fe x))/\b=w:=by
 cases x
 all_goals
  go_enter Tryz.func274,Tryz.ntmps274;go_wp2;go_ret;exact⟨rfl,rfl⟩
def Rep (S:Nat->ByteArray):List ByteArray->Prop
 | []=>True
 | x :: r=>S r.length=x/\Rep S r
theorem Rep.upd {S:Nat->ByteArray}{r:List ByteArray}{k:Nat}(x:ByteArray)(h:Rep S r)(c:r.length<=k):Rep (upd S k x) r:=by
 induction r with
 | nil=>trivial
 | cons y r b =>simp only[List.length_cons] at c;refine⟨?_,b h.2 (by omega)⟩;unfold Vp.upd;rw[if_neg (by omega)];exact h.1
theorem Rep.push {S:Nat->ByteArray}{r:List ByteArray}(x:ByteArray)(h:Rep S r):Rep (Vp.upd S r.length x) (x :: r) :=
 ⟨by simp[Vp.upd],h.upd x ly⟩
theorem Rep.push' {S:Nat->ByteArray}{r:List ByteArray}{x v:ByteArray}(h:Rep S r)(e:x=v):Rep (Vp.upd S r.length x) (v :: r):=e ▸ h.push x
theorem Rep.at {S:Nat->ByteArray}{r:List ByteArray}{k:Nat}(h:Rep S r)(b:k<r.length):S k∈r:=by
 induction r with
 | nil=>simp at b
 | cons y r c =>
  by_cases e:k=r.length
  ·subst e;simp[h.1]
  ·exact mq _ (c h.2 (by simp at b;omega))
abbrev Res:=(List ByteArray × Nat) ⊕ (Int × ByteArray) ⊕ (Bool × ByteArray × List ByteArray)
def iq (ask:Bool)(a:ByteArray)(r:List ByteArray)(here looks:Nat):Res :=
 if aw a=false then .inr (.inl (2,(dY here))) else if looks=200 then .inr (.inl (3,⟨#[]⟩)) else .inr (.inr (ask,a,r))
def dq (op n:Nat)(t:ByteArray)(here looks:Nat)(c:List ByteArray):Res :=
 match op,c with
 | 1,c=>.inl ((t :: c),(here+1))
 | 2,b :: a :: r=>if a.size+b.size<=2000 then .inl (((a++b) :: r),(here+1)) else .inr (.inl (2,(dY here)))
 | 3,a :: r=>.inl (((if n<a.size then a.extract 0 n else a) :: r),(here+1))
 | 4,a :: r=>.inl (((if n<a.size then a.extract n a.size else ⟨#[]⟩) :: r),(here+1))
 | 5,a :: r=>.inl ((ik a n :: r),(here+1))
 | 6,b :: a :: r=>.inl ((fe (b.toList == a.toList) :: r),(here+1))
 | 7,a :: r=>.inl ((a :: a :: r),(here+1))
 | 8,b :: a :: r=>.inl ((a :: b :: r),(here+1))
 | 9,_ :: r=>.inl (r,(here+1))
 | 10,c=>.inl (c,n)
 | 11,a :: r=>.inl (r,(if a.toList=[]∨(a.toList == [48])=true then n else here+1))
 | 12,a :: r=>iq true a r here looks
 | 13,a :: r=>iq false a r here looks
 | 14,a :: _=>.inr (.inl (1,a))
 | 15,a :: _=>.inr (.inl (0,a))
 | _,_=>.inr (.inl (0,⟨#[]⟩))
theorem MAt.bel {w d:World}{b:Nat}{c:Value}{m:Mst}(h:MAt w b c m)(f:Below w.heap.size w d):MAt d b c m:=h.below f h.lt
theorem Only.bel {b:Nat}{u w c:World}(h:Only b u w)(d:Below w.heap.size w c):Only b u c:=h.trans (Only.of_below d)
theorem Only.frozen {b:Nat}{w c:World}(h:Only b w c)(k o:Nat)(d:k<w.heap.size)(hb:k≠b):c.frozen? ⟨k,o,none⟩=w.frozen? ⟨k,o,none⟩:=World.frozen?_of_block (w:=w) (a:=⟨k,o,none⟩) (h.block k d hb)
theorem MAt.other {w:World}{b:Nat}{c:Value}{m:Mst}(h:MAt w b c m)(k o:Nat)(v:Value)(f:k≠b):MAt (w.setCell ⟨k,o,none⟩ v) b c m :=
 ⟨by simpa using h.1,fun j d=>⟨(cell_far w ⟨k,o,none⟩ ⟨b,j,none⟩ v f).trans (h.2 j d).1,by have:=(h.2 j d).2;simpa using this⟩⟩
theorem MAt.drew {w:World}{b:Nat}{c:Value}{m:Mst}(h:MAt w b c m):MAt w.drew b c m:=h.below br.drew (Nat.lt_succ_self _)
theorem MAt.al {w:World}{b:Nat}{c:Value}{m:Mst}(h:MAt w b c m)(o:Obj):MAt (w.alloc o) b c m:=h.below ((Below.refl w.heap.size _).alloc ly _) h.lt
def gU (op:Nat)(b:List ByteArray):Bool:=decide (aX op<=b.length/\b.length - aX op+bT op<=50)
def de (f:Nat->Ins)(cnt place steps looks:Nat)(b:List ByteArray):Res :=
 if cnt<=place then .inr (.inl (2,(dY place))) else if steps=2000 then .inr (.inl (3,⟨#[]⟩)) else
  if gU (f place).op.toNat b=false then .inr (.inl (2,(dY place))) else dq (f place).op.toNat (f place).n.toNat (f place).s place looks b
def ej (cnt place steps:Nat):Nat:=if cnt<=place then steps else if steps=2000 then steps else steps+1
structure Env (w:World)(b pb po cnt:Nat)(f:Nat->Ins):Prop where
 row:RowIns w pb po cnt f
 tab:Tab2 w
 pow:Pow w
 pbb:pb<b
 tbb:0<b
 pwb:2<b
theorem Env.below {w c:World}{b d g cnt:Nat}{f:Nat->Ins}(h:Env w b d g cnt f)(hb:Below b w c):Env c b d g cnt f :=
 ⟨⟨lj h.row.1 hb.size,fun i hi=>(h.row.2 i hi).below hb h.pbb⟩,h.tab.below hb h.tbb,h.pow.low hb h.pwb,h.pbb,h.tbb,h.pwb⟩
theorem Env.only {w c:World}{b d g cnt:Nat}{f:Nat->Ins}(h:Env w b d g cnt f)(i:b<w.heap.size)(hb:Only b w c):Env c b d g cnt f:=h.below (hb.below ly (Nat.le_of_lt i))
structure Sim (m:Mst)(place steps looks:Nat)(stk:List ByteArray):Prop where
 rep:Rep m.S stk
 size:m.size=stk.length
 len:stk.length<=50
 hpl:m.place=place
 hst:m.steps=steps
 hlk:m.looks=looks
 le:∀ x∈stk,x.size<=2000
 pl:place<=2000
 st:steps<=2000
 lk:looks<=200
theorem py (l:List UInt8)(n:Nat):(cR l n).length<=l.length:=by
 induction n generalizing l with
 | zero =>rw[cR];have d:=fj l bu;have f:((l.dropWhile bu).takeWhile (fun c=>!bu c)).length<=(l.dropWhile bu).length:=(List.takeWhile_sublist _).length_le;omega
 | succ n b =>
  rw[cR];split
  ·simp
  ·have d:=fj l bu
   have f:=fj (l.dropWhile bu) (fun c=>!bu c);have h3:=b ((l.dropWhile bu).dropWhile (fun c=>!bu c));omega
theorem lZ (s:ByteArray)(n:Nat):(ik s n).size<=s.size:=py s.data.toList n
def pz (res:Res)(looks:Nat):Prop:=match res with
 | .inl (stk,p)=>stk.length<=50/\(∀ x∈stk,x.size<=2000)/\p<=2000
 | .inr (.inl (_,_))=>True
 | .inr (.inr (_,name,stk))=>stk.length<50/\(∀ x∈stk,x.size<=2000)/\aw name=true/\looks<200
theorem jG (op n here looks:Nat)(t:ByteArray)(b:List ByteArray)(g:b.length<=50)(c:∀ x∈b,x.size<=2000)(l:t.size<=2000)(hn:n<=2000)(hh:here<2000)(hlk:looks<=200)(k:1<=op)(h15:op<=15)(hb:gU op b=true):pz (dq op n t here looks b) looks:=by
 have f:∀ ask a r,b=a :: r->pz (iq ask a r here looks) looks:=by
  intro ask a r e;subst e;simp only[List.length_cons] at g;unfold iq;split
  ·trivial
  ·rename_i k
   split
   ·trivial
   ·rename_i h2
    exact⟨by omega,fun x i=>c x (by simp[i]),by simpa using k,by omega⟩
 simp only[gU,decide_eq_true_eq] at hb;obtain⟨d,j⟩:=hb;rcases(show op=1∨op=2∨op=3∨op=4∨op=5∨op=6∨op=7∨op=8∨op=9∨op=10∨op=11∨op=12∨op=13∨op=14∨op=15 by omega) with rfl | rfl | rfl | rfl | rfl | rfl | rfl | rfl | rfl | rfl | rfl | rfl | rfl | rfl | rfl;all_goals simp only[aX,bT] at d j
 ·refine⟨by simp at j ⊢;omega,fun x i=>?_,by omega⟩
  rcases List.mem_cons.1 i with rfl | i
  ·exact l
  ·exact c x i
 ·match b,d with
  | x :: y :: r,_ =>
   show pz (if y.size+x.size<=2000 then _ else _) _;split
   ·refine⟨by simp at g ⊢;omega,fun z hz=>?_,by omega⟩
    rcases List.mem_cons.1 hz with rfl | hz
    ·simp;omega
    ·exact c z (by simp[hz])
   ·trivial
 ·match b,d with
  | x :: r,_ =>
   refine⟨g,fun z hz=>?_,by omega⟩;have i:=c x (by simp);rcases List.mem_cons.1 hz with rfl | hz
   ·split
    ·simp;omega
    ·exact i
   ·exact c z (by simp[hz])
 ·match b,d with
  | x :: r,_ =>
   refine⟨g,fun z hz=>?_,by omega⟩;have i:=c x (by simp);rcases List.mem_cons.1 hz with rfl | hz
   ·split
    ·simp;omega
    ·decide
   ·exact c z (by simp[hz])
 ·match b,d with
  | x :: r,_ =>
   refine⟨g,fun z hz=>?_,by omega⟩;rcases List.mem_cons.1 hz with rfl | hz
   ·exact Nat.le_trans (lZ _ _) (c x (by simp))
   ·exact c z (by simp[hz])
 ·match b,d with
  | x :: y :: r,_ =>
   refine⟨by simp at g ⊢;omega,fun z hz=>?_,by omega⟩;rcases List.mem_cons.1 hz with rfl | hz
   ·unfold fe
    split<;>decide
   ·exact c z (by simp[hz])
 ·match b,d with
  | x :: r,_ =>
   refine⟨by simp at j ⊢;omega,fun z hz=>?_,by omega⟩;rcases List.mem_cons.1 hz with rfl | hz
   ·exact c _ (by simp)
   ·exact c z hz
 ·match b,d with
  | x :: y :: r,_ =>refine⟨g,fun z hz=>?_,by omega⟩;simp only[List.mem_cons] at hz;exact c z (by simp only[List.mem_cons];rcases hz with h | h | h<;>simp[h])
 ·match b,d with
  | x :: r,_=>exact⟨by simp at g;omega,fun z hz=>c z (by simp[hz]),by omega⟩
 ·exact⟨g,c,hn⟩
 ·match b,d with
  | x :: r,_ =>refine⟨by simp at g;omega,fun z hz=>c z (by simp[hz]),?_⟩;split<;>omega
 ·match b,d with
  | x :: r,_=>exact f true x r rfl
 ·match b,d with
  | x :: r,_=>exact f false x r rfl
 ·match b,d with
  | x :: r,_=>trivial
 ·match b,d with
  | x :: r,_=>trivial
abbrev Halt:=(Int × ByteArray × Nat) ⊕ (Bool × ByteArray × List ByteArray × Nat × Nat × Nat)
theorem pA {f:Nat->Ins}{cnt place steps looks:Nat}{c s:List ByteArray}{p:Nat}(h:de f cnt place steps looks c=.inl (s,p)):ej cnt place steps=steps+1/\steps≠2000:=by
 unfold de at h;unfold ej;split at h
 ·cases h
 ·split at h
  ·cases h
  ·rename_i d b
   rw[if_neg d,if_neg b];exact⟨rfl,b⟩
def eV (c:Int)(x:ByteArray)(k:Nat):Turn:=⟨true,c,x,false,⟨#[]⟩,k⟩
def kj (a:Bool)(nm:ByteArray)(k:Nat):Turn:=⟨false,0,⟨#[]⟩,a,nm,k⟩
def dx (f:Nat->Ins)(cnt:Nat)(y:Nat->aC)(n:Nat):Nat->Nat->Nat->Nat->List ByteArray->Turn
 | 0,_,_,_,_=>oL
 | k+1,place,steps,looks,stk=>match de f cnt place steps looks stk with
  | .inr (.inl (c,x))=>eV c x (ej cnt place steps)
  | .inl (s,p)=>dx f cnt y n k p (ej cnt place steps) looks s
  | .inr (.inr (a,nm,s))=>if n<=looks then kj a nm (ej cnt place steps)
    else if a=false then dx f cnt y n k (place+1) (ej cnt place steps) (looks+1) (fe (y looks).has :: s)
    else if (y looks).has=false then eV 4 nm (ej cnt place steps)
    else if (y looks).code=0 then dx f cnt y n k (place+1) (ej cnt place steps) (looks+1) ((y looks).text :: s)
    else eV 5 nm (ej cnt place steps)
def sZ (f:Nat->Ins)(cnt:Nat)(y:Nat->aC)(n:Nat):Halt->Turn
 | .inl (c,x,k)=>eV c x k
 | .inr (a,nm,s,p,k,l)=>if n<=l - 1 then kj a nm k
   else if a=false then dx f cnt y n (2001 - k) p k l (fe (y (l - 1)).has :: s)
   else if (y (l - 1)).has=false then eV 4 nm k
   else if (y (l - 1)).code=0 then dx f cnt y n (2001 - k) p k l ((y (l - 1)).text :: s)
   else eV 5 nm k
theorem ma {f:Nat->Ins}{cnt place steps looks:Nat}{c s:List ByteArray}{a:Bool}{nm:ByteArray}(h:de f cnt place steps looks c=.inr (.inr (a,nm,s))):ej cnt place steps=steps+1/\steps≠2000:=by
 unfold de at h;unfold ej;split at h
 ·cases h
 ·split at h
  ·cases h
  ·rename_i d b
   rw[if_neg d,if_neg b];exact⟨rfl,b⟩
def cP (r:aC):Bool:=decide (r.text.size<=2000/\0<=r.code/\r.code<=7)
def bO (y:Nat->aC):Nat->Bool
 | 0=>true
 | k+1=>bO y k && cP (y k)
theorem iM {y:Nat->aC}{k n:Nat}(h:k<=n)(hn:bO y n=true):bO y k=true:=by
 induction n with
 | zero =>
  obtain rfl:k=0:=by omega
  exact hn
 | succ m b =>
  by_cases e:k=m+1
  ·subst e;exact hn
  ·simp only[bO,Bool.and_eq_true] at hn
   exact b (by omega) hn.1
theorem fB {y:Nat->aC}{k n:Nat}(h:k<n)(b:cP (y k)=false):bO y n=false:=by
 cases e:bO y n with
 | false=>rfl
 | true =>have c:=iM (show k+1<=n by omega) e;simp[bO,b] at c
theorem ws {y:Nat->aC}{k n:Nat}(h:bO y n=true)(hk:k<n):(y k).text.size<=2000/\0<=(y k).code/\(y k).code<=7:=by have:=iM (show k+1<=n by omega) h;simp only[bO,Bool.and_eq_true,cP,decide_eq_true_eq] at this;exact this.2
end Go.Proofs.YtkophfgkcijjkaaGreatDoor.Vp
