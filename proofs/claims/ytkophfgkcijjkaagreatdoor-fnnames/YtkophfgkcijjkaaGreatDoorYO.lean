import Derived.Test.YtkophfgkcijjkaaGreatDoorYM
import Derived.Deep.WholeRow
set_option maxHeartbeats 4000000
namespace Go.Proofs.YtkophfgkcijjkaaGreatDoor.Vp
open RowKit
def m0:Mst:={ S:=fun _=>⟨#[]⟩,size:=0,place:=0,steps:=0,looks:=0,t:=oL }
theorem Pow.lt {w:World}(h:Pow w):2<w.heap.size:=by
 have c:=World.var?_cell wk h 0;rcases Nat.lt_or_ge 2 w.heap.size with b | b
 ·exact b
 ·simp[World.cell?,Array.getElem?_eq_none b,Lib.pow10Tab] at c
theorem Sim.push {m:Mst}{p st l:Nat}{s:List ByteArray}(b:Sim m p st l s)(x:ByteArray)(c:x.size<=2000)(hl:s.length<50):Sim { m with t:=oL,S:=upd m.S m.size x,size:=m.size+1 } p st l (x :: s) :=
 ⟨by rw[b.size];exact b.rep.push x,by simp[b.size],by simp;omega,b.hpl,b.hst,b.hlk,fun z hz=>by
  rcases List.mem_cons.1 hz with rfl | hz
  ·exact c
  ·exact b.le z hz,b.pl,b.st,b.lk⟩
theorem ji (b:Bool):(fe b).size<=2000:=by cases b<;>decide
def Six (w:World)(g:Nat):Prop:=g<w.heap.size/\∀ j,j<6->∃ v,w.cell? ⟨g,j,none⟩=some v/\w.frozen? ⟨g,j,none⟩=false
theorem Six.below {w c:World}{g B:Nat}(h:Six w g)(b:Below B w c)(d:g<B):Six c g:=⟨lj h.1 b.size,fun j f=>by
 obtain⟨v,i,k⟩:=h.2 j f
 exact⟨v,(b.cell (p:=⟨g,j,none⟩) d).trans i,(b.frozen (p:=⟨g,j,none⟩) d).trans k⟩⟩
theorem Six.only {w d:World}{g b:Nat}(h:Six w g)(c:Only b w d)(f:g≠b):Six d g:=⟨lj h.1 c.size,fun j k=>by
 obtain⟨v,i,l⟩:=h.2 j k
 exact⟨v,(c.cell g j h.1 f).trans i,(c.frozen g j h.1 f).trans l⟩⟩
theorem mO (w:World)(b f g h d c:Value)(t:TypeId):Six (w.alloc (.cells #[b,f,g,h,d,c] t)) w.heap.size:=⟨by simp,fun j hj=>by
 rcases(show j=0∨j=1∨j=2∨j=3∨j=4∨j=5 by omega) with rfl | rfl | rfl | rfl | rfl | rfl
 all_goals exact⟨_,by simp;rfl,by simp⟩⟩
theorem fN {B g:Nat}{u w:World}(h:Below B u w)(b:B<=g)(c i j k f d:Value):Below B u ((((((w.setCell ⟨g,0,none⟩ c).setCell ⟨g,1,none⟩ i).setCell ⟨g,2,none⟩ j).setCell ⟨g,3,none⟩ k).setCell ⟨g,4,none⟩ f).setCell ⟨g,5,none⟩ d) :=
 (((((h.setCell b c).setCell b i).setCell b j).setCell b k).setCell b f).setCell b d
def badT:Turn:=⟨false,9,⟨#[]⟩,false,⟨#[]⟩,0⟩
def oH (f:Nat->Ins)(cnt:Nat)(y:Nat->aC)(n:Nat):Turn:=if valid f cnt=false then badT else if 200<n then badT else if bO y n=false then badT else dx f cnt y n 2001 0 0 0 []
def TurnBox (w:World)(g:Nat)(t:Turn):Prop:=g<w.heap.size/\(w.cell? ⟨g,0,none⟩=some (.bool t.over)/\w.cell? ⟨g,1,none⟩=some (.int .i64 t.code)/\w.cell? ⟨g,2,none⟩=some (.string t.text)/\w.cell? ⟨g,3,none⟩=some (.bool t.ask)/\w.cell? ⟨g,4,none⟩=some (.string t.name)/\w.cell? ⟨g,5,none⟩=some (.int .i64 t.steps))/\∀ j,w.frozen? ⟨g,j,none⟩=false
theorem TurnBox.below {w c:World}{g B:Nat}{t:Turn}(h:TurnBox w g t)(hb:Below B w c)(b:g<B):TurnBox c g t:=by obtain⟨d,⟨c0,c1,c2,c3,c4,c5⟩,hz⟩:=h;exact⟨lj d hb.size,⟨(hb.cell (p:=⟨g,_,none⟩) b).trans c0,(hb.cell (p:=⟨g,_,none⟩) b).trans c1,(hb.cell (p:=⟨g,_,none⟩) b).trans c2,(hb.cell (p:=⟨g,_,none⟩) b).trans c3,(hb.cell (p:=⟨g,_,none⟩) b).trans c4,(hb.cell (p:=⟨g,_,none⟩) b).trans c5⟩,fun j=>(hb.frozen (p:=⟨g,j,none⟩) b).trans (hz j)⟩
theorem TurnBox.only {w i:World}{g b:Nat}{t:Turn}(h:TurnBox w g t)(c:Only b w i)(f:g≠b):TurnBox i g t:=by obtain⟨d,⟨c0,c1,c2,c3,c4,c5⟩,hz⟩:=h;exact⟨lj d c.size,⟨(c.cell g _ d f).trans c0,(c.cell g _ d f).trans c1,(c.cell g _ d f).trans c2,(c.cell g _ d f).trans c3,(c.cell g _ d f).trans c4,(c.cell g _ d f).trans c5⟩,fun j=>(c.frozen g j d f).trans (hz j)⟩
theorem TurnBox.six {w:World}{g:Nat}{t:Turn}(h:TurnBox w g t):Six w g:=by
 obtain⟨b,⟨c0,c1,c2,c3,c4,c5⟩,hz⟩:=h;refine⟨b,fun j hj=>?_⟩;rcases(show j=0∨j=1∨j=2∨j=3∨j=4∨j=5 by omega) with rfl | rfl | rfl | rfl | rfl | rfl
 ·exact⟨_,c0,hz _⟩
 ·exact⟨_,c1,hz _⟩
 ·exact⟨_,c2,hz _⟩
 ·exact⟨_,c3,hz _⟩
 ·exact⟨_,c4,hz _⟩
 ·exact⟨_,c5,hz _⟩
def xT (w:World)(g:Nat)(t:Turn):World:=(((((w.setCell ⟨g,0,none⟩ (.bool t.over)).setCell ⟨g,1,none⟩ (.int .i64 t.code)).setCell ⟨g,2,none⟩ (.string t.text)).setCell ⟨g,3,none⟩ (.bool t.ask)).setCell ⟨g,4,none⟩ (.string t.name)).setCell ⟨g,5,none⟩ (.int .i64 t.steps)
abbrev cI (at_:Int)(sv:Value)(st lk:Int)(b:Bool)(c:Int)(x:ByteArray)(ask:Bool)(nm:ByteArray)(d:Bool):Value :=
 .agg #[.int .i64 at_,sv,.int .i64 st,.int .i64 lk,.bool b,.int .i64 c,.string x,.bool ask,.string nm,.bool d]
theorem dr {B g:Nat}{u w:World}(h:Below B u w)(b:B<=g)(c l n o k j d m i f:Value):Below B u ((((((((((w.setCell ⟨g,0,none⟩ c).setCell ⟨g,1,none⟩ l).setCell ⟨g,2,none⟩ n).setCell ⟨g,3,none⟩ o).setCell ⟨g,4,none⟩ k).setCell ⟨g,5,none⟩ j).setCell ⟨g,6,none⟩ d).setCell ⟨g,7,none⟩ m).setCell ⟨g,8,none⟩ i).setCell ⟨g,9,none⟩ f) :=
 (((((((((h.setCell b c).setCell b l).setCell b n).setCell b o).setCell b k).setCell b j).setCell b d).setCell b m).setCell b i).setCell b f
theorem dE (at_:Int)(a:Option Addr)(n cap:Nat)(st lk:Int)(d:Bool)(c0:Int)(g:ByteArray)(ask:Bool)(nm:ByteArray)(b:Bool)(c:Int)(x:ByteArray)(w:World):Calls Tryz.prog 255 #[cI at_ (.slice a n cap) st lk d c0 g ask nm b,.int .i64 c,.string x] w fun e f=>e=.returned (cI at_ (.slice a n cap) st lk true c x ask nm b)/\Below w.heap.size w f:=by go_enter Tryz.func255,Tryz.ntmps255;go_wp2;refine bp (v:=cI at_ (.slice a n cap) st lk true c x ask nm b) (by simp[results,Tryz.results255,go_sem]) rfl ⟨rfl,(br.alloc ly _).alloc (by simp) _⟩
theorem qW (op:Nat)(w:World)(h1:1<=op)(h15:op<=15):Calls Tryz.prog 256 #[.int .i64 op] w fun e b=>e=.returned (.tuple #[.int .i64 (aX op),.int .i64 (bT op)])/\b=w:=by
 rcases(show op=1∨op=2∨op=3∨op=4∨op=5∨op=6∨op=7∨op=8∨op=9∨op=10∨op=11∨op=12∨op=13∨op=14∨op=15 by omega) with rfl | rfl | rfl | rfl | rfl | rfl | rfl | rfl | rfl | rfl | rfl | rfl | rfl | rfl | rfl;all_goals
  go_enter Tryz.func256,Tryz.ntmps256;go_wp2;refine bp (v:=.tuple #[.int .i64 (aX _),.int .i64 (bT _)]) (by simp[results,Tryz.results256,go_sem,aX,bT]) rfl ⟨rfl,rfl⟩
def bM (op n:Nat)(t a b:ByteArray):List ByteArray :=
 match op with
 | 1=>[t]
 | 2=>[b++a]
 | 3=>[if n<a.size then a.extract 0 n else a]
 | 4=>[if n<a.size then a.extract n a.size else ⟨#[]⟩]
 | 5=>[ik a n]
 | 6=>[fe (a.toList == b.toList)]
 | 7=>[a,a]
 | 8=>[a,b]
 | _=>[]
theorem jU (w:World)(x:ByteArray)(g:Nat)(b:g=w.heap.size):RowStr (w.alloc (.cells #[.string x] 9)) g 0 1 (fun i=>[x].getD i ⟨#[]⟩):=by
 subst b
 exact⟨by simp,fun i hi=>by
  obtain rfl:i=0:=by omega
  simp⟩
theorem yN (w:World)(x y:ByteArray)(g:Nat)(b:g=w.heap.size):RowStr (w.alloc (.cells #[.string x,.string y] 9)) g 0 2 (fun i=>[x,y].getD i ⟨#[]⟩):=by subst b;exact⟨by simp,fun i hi=>by rcases(show i=0∨i=1 by omega) with rfl | rfl<;>simp⟩
theorem qX (op n:Nat)(t a b:ByteArray)(w:World)(h1:1<=op)(h8:op<=8)(l:a.size<=2000)(hb:b.size<=2000)(hn:n<=2000):Calls Tryz.prog 258 #[.agg #[.int .i64 op,.string t,.int .i64 n],.string a,.string b] w fun e j=>∃ g,e=.returned (.slice (some ⟨g,0,none⟩) (bM op n t a b).length (bM op n t a b).length)/\RowStr j g 0 (bM op n t a b).length (fun i=>(bM op n t a b).getD i ⟨#[]⟩)/\w.heap.size<=g/\Below w.heap.size w j:=by
 have c:=ae ((q9 w).alloc ly (.cells #[.int .i64 op,.string t,.int .i64 n] 176));rcases(show op=1∨op=2∨op=3∨op=4∨op=5∨op=6∨op=7∨op=8 by omega) with rfl | rfl | rfl | rfl | rfl | rfl | rfl | rfl
 ·go_enter Tryz.func258,Tryz.ntmps258
  go_wp2;go_ret;exact⟨_,rfl,jU _ t _ (by simp),by simp,c.out.alloc (by simp) _⟩
 ·go_enter Tryz.func258,Tryz.ntmps258
  go_wp2;go_ret;exact⟨_,rfl,jU _ (b++a) _ (by simp),by simp,c.out.alloc (by simp) _⟩
 ·by_cases h:(n:Int)<a.size
  ·have e:bM 3 n t a b=[a.extract 0 n]:=by simp[bM];omega
   rw[e];clear e;go_enter Tryz.func258,Tryz.ntmps258;go_wp2;go_ret;exact⟨_,rfl,jU _ _ _ (by simp),by simp,c.out.alloc (by simp) _⟩
  ·have e:bM 3 n t a b=[a]:=by simp[bM];omega
   rw[e];clear e;go_enter Tryz.func258,Tryz.ntmps258;go_wp2;go_ret;exact⟨_,rfl,jU _ _ _ (by simp),by simp,c.out.alloc (by simp) _⟩
 ·by_cases h:(n:Int)<a.size
  ·have e:bM 4 n t a b=[a.extract n a.size]:=by simp[bM];omega
   rw[e];clear e;go_enter Tryz.func258,Tryz.ntmps258;go_wp2;go_ret;exact⟨_,rfl,jU _ _ _ (by simp),by simp,c.out.alloc (by simp) _⟩
  ·have e:bM 4 n t a b=[⟨#[]⟩]:=by simp[bM];omega
   rw[e];clear e;go_enter Tryz.func258,Tryz.ntmps258;go_wp2;go_ret;exact⟨_,rfl,jU _ _ _ (by simp),by simp,c.out.alloc (by simp) _⟩
 ·go_enter Tryz.func258,Tryz.ntmps258
  go_wp2_with fail;refine(qR a n _ l hn).mono ?_;rintro e k ⟨rfl,d⟩;have f:=ae (c.out.trans (d.mono (by simp)));clear d;go_wp2;go_ret;exact⟨_,rfl,jU _ (ik a n) _ rfl,f.out.size,f.out.alloc f.out.size _⟩
 ·go_enter Tryz.func258,Tryz.ntmps258
  go_wp2_with fail;refine(lY _ _).mono ?_;rintro e k ⟨rfl,rfl⟩;go_wp2;go_ret;exact⟨_,rfl,jU _ (fe (a.toList == b.toList)) _ (by simp),by simp,c.out.alloc (by simp) _⟩
 ·go_enter Tryz.func258,Tryz.ntmps258
  go_wp2;go_ret;exact⟨_,rfl,yN _ a a _ (by simp),by simp,c.out.alloc (by simp) _⟩
 ·go_enter Tryz.func258,Tryz.ntmps258
  go_wp2;go_ret;exact⟨_,rfl,yN _ a b _ (by simp),by simp,c.out.alloc (by simp) _⟩
end Go.Proofs.YtkophfgkcijjkaaGreatDoor.Vp
