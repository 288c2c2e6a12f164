import Derived.Test.YtkophfgkcijjkaaGreatDoorXS
import Derived.Test.YtkophfgkcijjkaaGreatDoorXU
set_option maxRecDepth 100000
set_option maxHeartbeats 8000000
namespace Go.Proofs.YtkophfgkcijjkaaGreatDoor.Vp
open RowKit Ca
def MkA (w:World)(e:Ending)(b:World):Prop:=∃ (a:Option Addr) (n c:Nat) (f:Nat->ar) (k:Int) (t:ByteArray) (ra:Option Addr) (d g:Nat),e=.returned (.tuple #[.agg #[.slice a n c],.agg #[.int .i64 k,.string t,.slice ra d g]])/\HAc w.heap.size b a n c f/\n<=400/\(∀ i,i<n->nd (f i))/\Below w.heap.size w b
theorem nl (b n0 c0 n1 c1:Nat)(a0:Option Addr)(f0:Nat->Source)(a1:Option Addr)(f1:Nat->Target)(w:World)(nm:ByteArray)(hH:HSp b w a0 n0 f0 a1 n1 f1):Calls Tryz.prog 44 #[.agg #[.slice a0 n0 c0,.slice a1 n1 c1],.string nm] w fun e d=>MkA w e d:=by have h0:=hH.hn0;have h1:=hH.hn1;refine(qy (S:=⟨n0,f0,n1,f1⟩) (a0:=a0) (a1:=a1) (c0:=c0) (c1:=c1) w nm (hH.sl w (Agr.refl _ _)).1 (hH.sl w (Agr.refl _ _)).2 (by show n0<=_;omega) (by show n1<=_;omega) (fun i hi=>by have:=(hH.fit i hi).1;unfold bD;show(f1 i).actN<=_;omega) (fun i hi j o=>by have:=(hH.fit i hi).2 j o;unfold maxLen;show((f1 i).act j).s.size<=_;omega)).mono ?_;rintro e d ⟨a,c,R,rv,rfl,n,h,⟨ra,k,rfl,-⟩,g⟩;obtain⟨l,f,m⟩:=xr n h;exact⟨a,R.length,c,_,_,_,ra,_,k,rfl,l,f,m,g⟩
structure Dr1 (xs:List Nat)(w:World)(R rs ra sb:Nat)(W:World)(q n0 c0 n1 c1:Nat)(a0:Option Addr)(f0:Nat->Source)(a1:Option Addr)(f1:Nat->Target):Prop where
 rd:Rd W R q
 o:Only R w W
 zs:W.heap[rs]?=some (.cells #[.slice none 0 0,.slice none 0 0] 26 (0,0))
 za:W.heap[ra]?=some (.cells #[.slice none 0 0] 59 (0,0))
 sx:W.heap[sb]?=some (.cells #[.slice a0 n0 c0,.slice a1 n1 c1] 26 (0,0))
 qs:QSp w.heap.size xs W a0 n0 f0 a1 n1 f1
 lo:R<w.heap.size
 hb:w.heap.size<=rs/\w.heap.size<=ra/\w.heap.size<=sb
structure Dr2 (xs:List Nat)(w:World)(R rs ra sb ab:Nat)(W:World)(q n0 c0 n1 c1:Nat)(a0:Option Addr)(f0:Nat->Source)(a1:Option Addr)(f1:Nat->Target)(n c:Nat)(a:Option Addr)(f:Nat->ar):Prop where
 d:Dr1 xs w R rs ra sb W q n0 c0 n1 c1 a0 f0 a1 f1
 ax:W.heap[ab]?=some (.cells #[.slice a n c] 59 (0,0))
 qa:QAc w.heap.size xs W a n c f
 hb:w.heap.size<=ab
section
variable {xs:List Nat}{w W W':World}{R rs ra sb ab q q' n0 c0 n1 c1 n c:Nat}{a0 a1 a:Option Addr}{f0:Nat->Source}{f1:Nat->Target}{f:Nat->ar}
theorem Dr1.only (h:Dr1 xs w R rs ra sb W q n0 c0 n1 c1 a0 f0 a1 f1)(b:Only R W W')(hR:Rd W' R q')(c:R∈xs):Dr1 xs w R rs ra sb W' q' n0 c0 n1 c1 a0 f0 a1 f1:=by have hl:=h.lo;obtain⟨h1,h2,h3⟩:=h.hb;exact⟨hR,h.o.trans b,(b.block _ (au h.zs) (by omega)).trans h.zs,(b.block _ (au h.za) (by omega)).trans h.za,(b.block _ (au h.sx) (by omega)).trans h.sx,h.qs.fr (Fr.only b c),h.lo,h.hb⟩
theorem Dr1.below (h:Dr1 xs w R rs ra sb W q n0 c0 n1 c1 a0 f0 a1 f1)(b:Below W.heap.size W W')(c:R∈xs):Dr1 xs w R rs ra sb W' q n0 c0 n1 c1 a0 f0 a1 f1:=h.only (Only.of_below b) (h.rd.below b ly) c
theorem Dr1.cells (h:Dr1 xs w R rs ra sb W q n0 c0 n1 c1 a0 f0 a1 f1):W.cell? ⟨sb,0,none⟩=some (.slice a0 n0 c0)/\W.cell? ⟨sb,1,none⟩=some (.slice a1 n1 c1)/\W.frozen? ⟨sb,0,none⟩=false/\W.frozen? ⟨sb,1,none⟩=false/\sb<W.heap.size:=by have hb:=h.sx;refine⟨?_,?_,?_,?_,au hb⟩<;>simp[World.cell?,World.frozen?,hb]
theorem Dr1.more (h:Dr1 xs w R rs ra sb W q n0 c0 n1 c1 a0 f0 a1 f1){x:Nat}(g:W.heap.size<=x):Dr1 (x :: xs) w R rs ra sb W q n0 c0 n1 c1 a0 f0 a1 f1:=by
 obtain⟨b,f,j,k,d,i⟩:=h.qs;refine⟨h.rd,h.o,h.zs,h.za,h.sx,⟨b,f,j,k,d,fun y c=>?_⟩,h.lo,h.hb⟩;rcases List.mem_cons.1 c with rfl | c
 ·exact .inr (Nat.le_trans d.1 g)
 ·exact i y c
theorem Dr2.only (h:Dr2 xs w R rs ra sb ab W q n0 c0 n1 c1 a0 f0 a1 f1 n c a f)(b:Only R W W')(hR:Rd W' R q')(g:R∈xs):Dr2 xs w R rs ra sb ab W' q' n0 c0 n1 c1 a0 f0 a1 f1 n c a f:=by have hl:=h.d.lo;have h1:=h.hb;exact⟨h.d.only b hR g,(b.block _ (au h.ax) (by omega)).trans h.ax,h.qa.fr (Fr.only b g),h.hb⟩
theorem Dr2.below (h:Dr2 xs w R rs ra sb ab W q n0 c0 n1 c1 a0 f0 a1 f1 n c a f)(b:Below W.heap.size W W')(g:R∈xs):Dr2 xs w R rs ra sb ab W' q n0 c0 n1 c1 a0 f0 a1 f1 n c a f:=h.only (Only.of_below b) (h.d.rd.below b ly) g
theorem Dr2.acc (h:Dr2 xs w R rs ra sb ab W q n0 c0 n1 c1 a0 f0 a1 f1 n c a f):W.cell? ⟨ab,0,none⟩=some (.slice a n c)/\W.frozen? ⟨ab,0,none⟩=false/\ab<W.heap.size:=by have hb:=h.ax;refine⟨?_,?_,au hb⟩<;>simp[World.cell?,World.frozen?,hb]
theorem mC {W:World}{i j:Nat}{c f:Array Value}{t b:TypeId}{z d:Nat × Nat}(h:W.heap[i]?=some (.cells c t z))(g:W.heap[j]?=some (.cells f b d))(k:t≠b):i≠j:=fun e=>by rw[e,g] at h;simp at h;exact k h.2.1.symm
theorem Dr1.put {m0 k0 c k1:Nat}{b0 b:Option Addr}{i:Nat->Source}{f:Nat->Target}(h:Dr1 xs w R rs ra sb W q n0 c0 n1 c1 a0 f0 a1 f1)(g:sb∈xs)(n:rs≠sb)(l:QSp w.heap.size xs W b0 m0 i b c f):Dr1 xs w R rs ra sb ((W.setCell ⟨sb,0,none⟩ (.slice b0 m0 k0)).setCell ⟨sb,1,none⟩ (.slice b c k1)) q m0 k0 c k1 b0 i b f:=by obtain⟨h1,h2,d⟩:=h.hb;have B:=((Below.refl w.heap.size W).setCell (p:=⟨sb,0,none⟩) d (.slice b0 m0 k0)).setCell (p:=⟨sb,1,none⟩) d (.slice b c k1);have far:∀ k,k≠sb->((W.setCell ⟨sb,0,none⟩ (.slice b0 m0 k0)).setCell ⟨sb,1,none⟩ (.slice b c k1)).heap[k]?=W.heap[k]?:=fun k j=>(qh _ _ _ _ j).trans (qh _ _ _ _ j);have m:=h.sx;exact⟨h.rd.low B h.lo,h.o.then B,(far _ n).trans h.zs,(far _ (mC h.za h.sx (by decide))).trans h.za,by simp[World.setCell,Array.getElem?_modify,m],l.fr ((Fr.set g _).trans (Fr.set g _)),h.lo,h.hb⟩
theorem Dr1.aset (h:Dr1 xs w R rs ra sb W q n0 c0 n1 c1 a0 f0 a1 f1){x j:Nat}(b:x∈xs)(d:x≠sb)(i:x≠ra)(c:x≠rs)(g:w.heap.size<=x)(u:Value):Dr1 xs w R rs ra sb (W.setCell ⟨x,j,none⟩ u) q n0 c0 n1 c1 a0 f0 a1 f1:=by have B:=(Below.refl w.heap.size W).setCell (p:=⟨x,j,none⟩) g u;have far:∀ k,k≠x->(W.setCell ⟨x,j,none⟩ u).heap[k]?=W.heap[k]?:=fun k f=>qh _ _ _ _ f;exact⟨h.rd.low B h.lo,h.o.then B,(far _ (fun e=>c e.symm)).trans h.zs,(far _ (fun e=>i e.symm)).trans h.za,(far _ (fun e=>d e.symm)).trans h.sx,h.qs.fr (Fr.set b u),h.lo,h.hb⟩
theorem Dr2.put {m k:Nat}{b:Option Addr}{g:Nat->ar}(h:Dr2 xs w R rs ra sb ab W q n0 c0 n1 c1 a0 f0 a1 f1 n c a f)(i:ab∈xs)(l:ab≠ra)(j:QAc w.heap.size xs W b m k g):Dr2 xs w R rs ra sb ab (W.setCell ⟨ab,0,none⟩ (.slice b m k)) q n0 c0 n1 c1 a0 f0 a1 f1 m k b g :=
 ⟨h.d.aset i (mC h.ax h.d.sx (by decide)) l (mC h.ax h.d.zs (by decide)) h.hb _,bG h.ax _,j.fr (Fr.set i _),h.hb⟩
theorem Dr2.sput {m0 k0 i k1:Nat}{b0 g:Option Addr}{k:Nat->Source}{l:Nat->Target}(h:Dr2 xs w R rs ra sb ab W q n0 c0 n1 c1 a0 f0 a1 f1 n c a f)(j:sb∈xs)(o:rs≠sb)(m:QSp w.heap.size xs W b0 m0 k g i l):Dr2 xs w R rs ra sb ab ((W.setCell ⟨sb,0,none⟩ (.slice b0 m0 k0)).setCell ⟨sb,1,none⟩ (.slice g i k1)) q m0 k0 i k1 b0 k g l n c a f :=
 have b:ab≠sb:=mC h.ax h.d.sx (by decide)
 ⟨h.d.put j o m,((qh _ _ _ _ b).trans (qh _ _ _ _ b)).trans h.ax,h.qa.fr ((Fr.set j _).trans (Fr.set j _)),h.hb⟩
end
def DSA (w:World)(R q:Nat)(e:Ending)(b:World):Prop:=∃ (a0:Option Addr) (n0 c0:Nat) (f0:Nat->Source) (a1:Option Addr) (n1 c1:Nat) (f1:Nat->Target) (a:Option Addr) (n c:Nat) (f:Nat->ar),e=.returned (.tuple #[.agg #[.slice a0 n0 c0,.slice a1 n1 c1],.agg #[.slice a n c]])/\HSp w.heap.size b a0 n0 f0 a1 n1 f1/\HAc w.heap.size b a n c f/\n<=400/\(∀ i,i<n->nd (f i))/\∃ q':Nat,q'<=q/\Rd b R q'/\Only R w b
theorem tQ (R p:Nat)(w:World)(hR:Rd w R p)(hp:p<=9000):Calls Tryz.prog 168 #[.pointer (some ⟨R,0,none⟩)] w fun e w'=>DSA w R (p+5300) e w':=by
 have HR:=ae hR;have L:=hR.lt;have zM:((w.alloc (.cells #[.slice none 0 0,.slice none 0 0] 26)).alloc (.cells #[.slice none 0 0] 59)).heap.size=w.heap.size+2:=by simp
 have A0:=ae (((q9 w).alloc ly (.cells #[.slice none 0 0,.slice none 0 0] 26)).alloc (by simp) (.cells #[.slice none 0 0] 59));have KS:Hid (((w.alloc (.cells #[.slice none 0 0,.slice none 0 0] 26)).alloc (.cells #[.slice none 0 0] 59)).heap[w.heap.size]?=some (.cells #[.slice none 0 0,.slice none 0 0] 26 (0,0))):=(((Below.refl (w.heap.size+1) (w.alloc (.cells #[.slice none 0 0,.slice none 0 0] 26))).alloc (by simp) _).block w.heap.size (Nat.lt_succ_self _)).trans (heap_alloc_new w _);have KA:Hid (((w.alloc (.cells #[.slice none 0 0,.slice none 0 0] 26)).alloc (.cells #[.slice none 0 0] 59)).heap[w.heap.size+1]?=some (.cells #[.slice none 0 0] 59 (0,0))):=heap_alloc2_new w _ _;clear hR;go_enter Tryz.func168,Tryz.ntmps168;go_wp2_with fail;generalize (w.alloc (.cells #[.slice none 0 0,.slice none 0 0] 26)).alloc (.cells #[.slice none 0 0] 59)=W0 at A0 KS KA zM ⊢;refine(aA R p 40 _ (HR.out.below A0.out ly) (by omega) (by omega) (by omega)).mono ?_;rintro e w1 ⟨z,rfl,hz0,hz1,n9,P⟩;have R1:=ae n9;have O1:=ae ((Only.of_below A0.out).trans P);have sm:=ae ((P.block w.heap.size (by omega) (by omega)).trans KS.out);have n8:=ae ((P.block (w.heap.size+1) (by omega) (by omega)).trans KA.out);have hs1:=P.size;clear n9 P KS KA A0 HR;go_wp2_with fail;refine(tE R _ _ R1.out (by omega)).mono ?_;rintro e G ⟨Y,Z,v0,v1,rfl,ho,ht,hG,zG,zO,q2,hq2,th,N⟩;obtain⟨a0,c0,rfl⟩:=aL ho;obtain⟨a1,c1,rfl⟩:=aL ht.own;have hH:=(yp ho ht hG (by omega) (by omega)).1;have hs2:=N.size;have W:=(q9 G).alloc ly (.cells #[.slice a0 Y.length c0,.slice a1 Z.length c1] 26);have E:Hid (Dr1 [R,w.heap.size,w.heap.size+1,G.heap.size] w R w.heap.size (w.heap.size+1) G.heap.size (G.alloc (.cells #[.slice a0 Y.length c0,.slice a1 Z.length c1] 26)) q2 Y.length c0 Z.length c1 a0 (aO Y) a1 (ba (Z.map (·.1)))):=by refine⟨th.below W ly,(O1.out.trans N).trans (Only.of_below W),(W.block _ (by omega)).trans ((N.block _ (by omega) (by omega)).trans sm.out),(W.block _ (by omega)).trans ((N.block _ (by omega) (by omega)).trans n8.out),heap_alloc_new G _,⟨w1.heap.size+2,G,by omega,hH,d9 W ly,fun x T=>?_⟩,L,by omega,by omega,by omega⟩;simp only[List.mem_cons,nj,or_false] at T;omega
 clear W ho ht hG hH th N O1 sm n8 R1;generalize Y.length=n0 at E zG ⊢;generalize Z.length=n1 at E zO ⊢;generalize aO Y=f0 at E;generalize ba (Z.map (·.1))=f1 at E;go_upto_region 3 with fail;have zL:w.heap.size+2<=G.heap.size:=by omega
 generalize G.alloc (.cells #[.slice a0 n0 c0,.slice a1 n1 c1] 26)=W2 at E ⊢;generalize G.heap.size=sb at E zL ⊢;obtain⟨x0,U,-⟩:=E.out.cells;go_wp2_with fail;refine(iy R _ w.heap.size n0 c0 n1 c1 a0 f0 a1 f1 _ E.out.rd (by omega) L E.out.qs.at).mono ?_;rintro e w3 ⟨t,rfl,q3,hq3,fd,qr⟩;have D2:=ae (E.out.only qr fd (by simp));clear fd qr E x0 U;go_upto_if 18 with fail;go_cut [6] (fun s6 wx=>∃ (t:ByteArray) (q m0 j r g:Nat) (b0:Option Addr) (M:Nat->Source) (b:Option Addr) (I:Nat->Target),s6=.string t/\q<=p+5200/\Hid (Dr1 [R,w.heap.size,w.heap.size+1,sb] w R w.heap.size (w.heap.size+1) sb wx q m0 j r g b0 M b I));case first =>
  by_cases hz:z=0
  ·subst hz
   go_wp2_with fail;refine(aA R _ 2 _ D2.out.rd (by omega) (by omega) (by omega)).mono ?_;rintro e w4 ⟨y,rfl,y0,y1,hR,hO⟩;have H:=ae (D2.out.only hO hR (by simp));clear hR hO D2;obtain⟨m,hm⟩:∃ m:Nat,60 - y=(m:Int):=⟨(60 - y).toNat,by omega⟩
   have hw:IntKind.i64.wrap (60 - y)=60 - y:=by rw[IntKind.wrap_i64];omega
   go_wp2_with fail;have hs4:=au H.out.sx;refine(rq m (by omega) ⟨#[97]⟩ (by decide) _).mono ?_;rintro e w5 ⟨b0,m0,j,M,b,r,g,I,rfl,hH,Q⟩;have hz5:=Q.size;have D4:=ae (H.out.below Q (by simp))
   have D5:=ae (D4.out.put (k0:=j) (k1:=g) (by simp) (by omega) (QSp.new hH (by omega) (fun x T=>by
    simp only[List.mem_cons,nj,or_false] at T
    omega)))
   obtain⟨x0,U,x2,x3,x4⟩:=D4.out.cells;clear hH Q H D4 hm hw;go_wp2;go_meet;exact⟨_,_,_,_,_,_,_,_,_,_,rfl,by omega,D5.out⟩
  ·have hzb:(z == 0)=false:=by simpa using hz
   go_wp2;go_meet;exact⟨t,q3,_,_,_,_,_,_,_,_,rfl,by omega,D2.out⟩
 case rest =>
 clear D2;obtain⟨t,q4,m0,j,r,g,b0,M,b,I,rfl,hq4,H⟩:=hcut;generalize wc=W3 at H ⊢;obtain⟨x0,U,x2,x3,x4⟩:=H.out.cells;go_wp2_with fail;refine(nl w.heap.size m0 j r g b0 M b I _ t H.out.qs.at).mono ?_;rintro e A ⟨a,n,c,f,kk,tt,ra,rn,rc,rfl,hA,hn,hf,Q⟩;have A6:=((q9 A).alloc ly (.cells #[.slice a n c] 59)).alloc (by simp) (.cells #[.int .i64 kk,.string tt,.slice ra rn rc] 41);have ro:((A.alloc (.cells #[.slice a n c] 59)).alloc (.cells #[.int .i64 kk,.string tt,.slice ra rn rc] 41)).heap[A.heap.size]?=some (.cells #[.slice a n c] 59 (0,0)):=(((Below.refl (A.heap.size+1) (A.alloc (.cells #[.slice a n c] 59))).alloc (by simp) _).block A.heap.size (Nat.lt_succ_self _)).trans (heap_alloc_new A _);have zN:=Q.size;have hws:=H.out.o.size;have E1:Hid (Dr2 [A.heap.size,R,w.heap.size,w.heap.size+1,sb] w R w.heap.size (w.heap.size+1) sb A.heap.size ((A.alloc (.cells #[.slice a n c] 59)).alloc (.cells #[.int .i64 kk,.string tt,.slice ra rn rc] 41)) q4 m0 j r g b0 M b I n c a f):=by refine⟨((H.out.below Q (by simp)).more ly).below A6 (by simp),ro,⟨W3.heap.size,A,by omega,hA,d9 A6 ly,fun x T=>?_⟩,by omega⟩;simp only[List.mem_cons,nj,or_false] at T;omega
 have HF:=ae hf;have zI:sb<A.heap.size:=by omega
 have hw2:w.heap.size+2<=W3.heap.size:=by omega
 clear A6 ro hA Q hf H x0 U x2 x3 x4;go_wp2_with fail;generalize (A.alloc (.cells #[.slice a n c] 59)).alloc (.cells #[.int .i64 kk,.string tt,.slice ra rn rc] 41)=W6 at E1 ⊢;generalize A.heap.size=ab at E1 zI zN ⊢;go_loopw [9] (fun i wr=>∃ (k q n c:Nat) (a:Option Addr) (f:Nat->ar),i=.int .i64 k/\k<=3/\q<=q4+3*k/\n<=400/\Hid (∀ i,i<n->nd (f i))/\Hid (Dr2 [ab,R,w.heap.size,w.heap.size+1,sb] w R w.heap.size (w.heap.size+1) sb ab wr q m0 j r g b0 M b I n c a f)) (fun i _=>3 - (intOf i).toNat);case atStart=>exact⟨0,q4,n,c,a,f,rfl,by omega,by omega,hn,HF.out,E1.out⟩
 case round =>
  clear E1 HF hn;obtain⟨k,q5,n,c,a,f,rfl,hk,hq5,hn,HF,E2⟩:=hrel;obtain⟨v0,v1,v2⟩:=E2.out.acc;go_upto_region 9 with fail;go_cut [36] (fun s wx=>∃ b:Bool,s=.bool b/\(b=true->k<3)/\wr=wx);case first =>
   by_cases la:k<3
   ·have zK:(k:Int)<3:=by omega
    go_wp2;go_meet;exact⟨_,rfl,fun _=>la,rfl⟩
   ·have zK:¬ (k:Int)<3:=by omega
    go_wp2;go_meet;exact⟨false,rfl,(fun h=>by cases h),rfl⟩
  case rest =>
  obtain⟨zF,rfl,ex,rfl⟩:=hcut;cases zF with
  | true =>
   have la:=ex rfl;obtain⟨x0,U,x2,x3,x4⟩:=E2.out.d.cells;clear ex v0 v1 v2;go_wp2_with fail;have u:=ae (E2.out.below br.drew (by simp));refine wp_region_held_drew (S:=fun V=>V.cell? ⟨sb,0,none⟩=some (.slice b0 m0 j)/\V.cell? ⟨sb,1,none⟩=some (.slice b r g)) (by as_aux_lemma=>kernel_rfl) ⟨u.out.d.cells.1,u.out.d.cells.2.1⟩ (fun hS=>?_);have l:=ae hS;clear hS E2 x0 U x2 x3 x4;generalize wr.drew=C at u l ⊢
   iterate 3
    refine aF 0 (v:=?_) rfl rfl (by as_aux_lemma=>kernel_rfl) (fun _ _ _ h=>h) rfl ?_ l.out ?_;rotate_left
    ·(intro wz O;obtain⟨s0,s1⟩:=O;go_simp)
     (try with_reducible rfl)
    (try simp only[Act.put,nzL])
   refine aK (i:=3) rfl (by as_aux_lemma=>kernel_rfl) (fun K B=>?_);go_simp;go_at_call 52;refine(iy R _ w.heap.size m0 j r g b0 M b I _ u.out.d.rd (by omega) L u.out.d.qs.at).mono ?_;rintro e v4 ⟨t4,rfl,q6,hq6,hR,hO⟩;have J:=ae (u.out.only hO hR (by simp));clear hR hO u l;have l:=ae (show v4.cell? ⟨sb,0,none⟩=some (.slice b0 m0 j)/\v4.cell? ⟨sb,1,none⟩=some (.slice b r g) from⟨J.out.d.cells.1,J.out.d.cells.2.1⟩);refine B.out _ _ l.out ?_;clear B K
   (try simp only[Act.put,nzL])
   refine aK (i:=4) rfl (by as_aux_lemma=>kernel_rfl) (fun K B=>?_);go_simp;go_at_call 44;refine(nl w.heap.size m0 j r g b0 M b I _ t4 J.out.d.qs.at).mono ?_;rintro e v5 ⟨a5,n5,c5,f5,kk5,tt5,ra5,rn5,rc5,rfl,ur,zE,ld,aq⟩;have hz4:=aq.size;have hab4:=au J.out.ax;have hsb4:=au J.out.d.sx;have hws4:=J.out.d.o.size;have hra4:=au J.out.d.za;have E5:=ae (J.out.below aq (by simp))
   have QA:Hid (QAc w.heap.size [ab,R,w.heap.size,w.heap.size+1,sb] v5 a5 n5 c5 f5):=QAc.new ur (by omega) (fun x T=>by
    simp only[List.mem_cons,nj,or_false] at T
    omega)
   have zJ:=ae ld;clear ur aq ld J l;have l:=ae (show v5.cell? ⟨sb,0,none⟩=some (.slice b0 m0 j)/\v5.cell? ⟨sb,1,none⟩=some (.slice b r g) from⟨E5.out.d.cells.1,E5.out.d.cells.2.1⟩);refine B.out _ _ l.out ?_;clear B K
   (try simp only[Act.put,nzL])
   iterate 3
    refine aF 5 (v:=?_) rfl rfl (by as_aux_lemma=>kernel_rfl) (fun _ _ _ h=>h) rfl ?_ l.out ?_;rotate_left
    ·(intro wz O;obtain⟨s0,s1⟩:=O;go_simp)
     (try with_reducible rfl)
    (try simp only[Act.put,nzL])
   obtain⟨z0,z1,z2⟩:=E5.out.acc;have E6:=ae (E5.out.put (by simp) (by omega) QA.out);refine aK (i:=8) rfl (by as_aux_lemma=>kernel_rfl) (fun K B=>?_);go_simp;have D:ab≠sb:=by omega
   refine B.out _ _ ⟨(cell_far _ _ _ _ D).trans l.out.1,(cell_far _ _ _ _ D).trans l.out.2⟩ ?_;clear B K l E5 QA z0 z1 z2
   (try simp only[Act.put,nzL])
   refine wpAnyH_done (by as_aux_lemma=>kernel_rfl) ?_ _;generalize v5.setCell ⟨ab,0,none⟩ (.slice a5 n5 c5)=W7 at E6 ⊢;go_wp2;exact⟨⟨k+1,q6,n5,c5,a5,f5,by go_num,by omega,by omega,zE,zJ.out,E6.out⟩,by simp[intOf];omega⟩
  | false =>
   clear ex v0 v1 v2;go_wp2_with fail;have SQ:Hid (∀ V,Dr2 [ab,R,w.heap.size,w.heap.size+1,sb] w R w.heap.size (w.heap.size+1) sb ab V q5 m0 j r g b0 M b I n c a f->V.cell? ⟨sb,0,none⟩=some (.slice b0 m0 j)/\V.cell? ⟨sb,1,none⟩=some (.slice b r g)/\V.cell? ⟨ab,0,none⟩=some (.slice a n c)):=fun V h=>⟨h.d.cells.1,h.d.cells.2.1,h.acc.1⟩
   have u:=ae (E2.out.below br.drew (by simp));refine wp_region_held_drew (S:=fun V=>V.cell? ⟨sb,0,none⟩=some (.slice b0 m0 j)/\V.cell? ⟨sb,1,none⟩=some (.slice b r g)/\V.cell? ⟨ab,0,none⟩=some (.slice a n c)) (by as_aux_lemma=>kernel_rfl) (SQ.out _ u.out) (fun hS=>?_);have l:=ae hS;clear hS E2;generalize wr.drew=C at u l ⊢
   iterate 2
    refine aF 0 (v:=?_) rfl rfl (by as_aux_lemma=>kernel_rfl) (fun _ _ _ h=>h) rfl ?_ l.out ?_;rotate_left
    ·(intro wz O;obtain⟨s0,s1,s2⟩:=O;go_simp)
     (try with_reducible rfl)
    (try simp only[Act.put,nzL])
   have X:=u.out.d.zs;have ka:=u.out.d.za;have r0:C.cell? ⟨w.heap.size,0,none⟩=some (.slice none 0 0):=by simp[World.cell?,X]
   have r1:C.cell? ⟨w.heap.size,1,none⟩=some (.slice none 0 0):=by simp[World.cell?,X]
   have r2:C.cell? ⟨w.heap.size+1,0,none⟩=some (.slice none 0 0):=by simp[World.cell?,ka]
   have y0:C.frozen? ⟨w.heap.size,0,none⟩=false:=by simp[World.frozen?,X]
   have y1:C.frozen? ⟨w.heap.size,1,none⟩=false:=by simp[World.frozen?,X]
   have y2:C.frozen? ⟨w.heap.size+1,0,none⟩=false:=by simp[World.frozen?,ka]
   have l0:=au X;have l1:=au ka;have B3:=ae ((((Below.refl w.heap.size C).setCell (p:=⟨w.heap.size,0,none⟩) ly (.slice b0 m0 j)).setCell (p:=⟨w.heap.size,1,none⟩) ly (.slice b r g)).setCell (p:=⟨w.heap.size+1,0,none⟩) (Nat.le_succ _) (.slice a n c));have FR:Hid (Fr [ab,R,w.heap.size,w.heap.size+1,sb] C (((C.setCell ⟨w.heap.size,0,none⟩ (.slice b0 m0 j)).setCell ⟨w.heap.size,1,none⟩ (.slice b r g)).setCell ⟨w.heap.size+1,0,none⟩ (.slice a n c))):=((Fr.set (by simp) _).trans (Fr.set (by simp) _)).trans (Fr.set (by simp) _);have zP:=ae (u.out.d.qs.fr FR.out).at;have zH:=ae (u.out.qa.fr FR.out).at;have R9:=ae (u.out.d.rd.low B3.out L);have O9:=ae (u.out.d.o.then B3.out);clear X ka B3 FR;refine aK (i:=2) rfl (by as_aux_lemma=>kernel_rfl) (fun K B=>?_);go_simp;clear l;have D:sb≠w.heap.size:=by omega
   have mv:ab≠w.heap.size:=by omega
   have l:=ae (show((C.setCell ⟨w.heap.size,0,none⟩ (.slice b0 m0 j)).setCell ⟨w.heap.size,1,none⟩ (.slice b r g)).cell? ⟨sb,0,none⟩=some (.slice b0 m0 j)/\((C.setCell ⟨w.heap.size,0,none⟩ (.slice b0 m0 j)).setCell ⟨w.heap.size,1,none⟩ (.slice b r g)).cell? ⟨sb,1,none⟩=some (.slice b r g)/\((C.setCell ⟨w.heap.size,0,none⟩ (.slice b0 m0 j)).setCell ⟨w.heap.size,1,none⟩ (.slice b r g)).cell? ⟨ab,0,none⟩=some (.slice a n c) from by
    obtain⟨h1,h2,h3⟩:=SQ.out _ u.out
    exact⟨(cell_far _ _ _ _ D.symm).trans ((cell_far _ _ _ _ D.symm).trans h1),(cell_far _ _ _ _ D.symm).trans ((cell_far _ _ _ _ D.symm).trans h2),(cell_far _ _ _ _ mv.symm).trans ((cell_far _ _ _ _ mv.symm).trans h3)⟩)
   refine B.out _ _ l.out ?_;clear B K
   (try simp only[Act.put,nzL])
   refine aK (i:=3) rfl (by as_aux_lemma=>kernel_rfl) (fun K B=>?_);go_simp;have zD:ab≠w.heap.size+1:=by omega
   have bt:sb≠w.heap.size+1:=by omega
   refine B.out _ _ ⟨(cell_far _ _ _ _ bt.symm).trans l.out.1,(cell_far _ _ _ _ bt.symm).trans l.out.2.1,(cell_far _ _ _ _ zD.symm).trans l.out.2.2⟩ ?_;clear B K
   (try simp only[Act.put,nzL])
   refine wpAnyH_done (by as_aux_lemma=>kernel_rfl) ?_ _;go_wp2;exact bp (v:=.tuple #[.agg #[.slice b0 m0 j,.slice b r g],.agg #[.slice a n c]]) (by simp[results,Tryz.results168,go_sem,r0,r1,r2]) rfl ⟨_,_,_,_,_,_,_,_,_,_,_,_,rfl,zP.out,zH.out,hn,HF.out,q5,by omega,R9.out,O9.out⟩
end Go.Proofs.YtkophfgkcijjkaaGreatDoor.Vp
