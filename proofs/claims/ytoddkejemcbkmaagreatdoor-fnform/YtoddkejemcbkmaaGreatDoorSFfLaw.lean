import Derived.Test.YtoddkejemcbkmaaGreatDoorPT
import Derived.Test.YtoddkejemcbkmaaGreatDoorPX
import Derived.Test.YtoddkejemcbkmaaGreatDoorOB
import Derived.Test.YtoddkejemcbkmaaGreatDoorPV
import Derived.Test.YtoddkejemcbkmaaGreatDoorPJ
import Derived.Test.YtoddkejemcbkmaaGreatDoorPH
set_option maxRecDepth 100000
set_option maxHeartbeats 16000000
open Go renaming Addr.mk->Q,Value.slice->Z,Value.string->U,Obj.cells->N,World->M,Ending.returned->ZF,World.heap->J,Proofs.Tryz.prog->Pg
open Option renaming none->Y,some->T
open Bool renaming false->ZA
open Array renaming size->I
namespace Go.Proofs.YtoddkejemcbkmaaGreatDoor.Vp
open Tryz RowKit Ca
def DAS (w:M)(R q:Nat)(e:Ending)(b:M):Prop:=∃(a0:Option Addr) (n0 c0:Nat) (f0:Nat->Source) (a1:Option Addr) (n1 c1:Nat) (f1:Nat->Target) (a:Option Addr) (n c:Nat) (f:Nat->Deed),e=ZF (.tuple #[.agg #[Z a n c],.agg #[Z a0 n0 c0,Z a1 n1 c1]])/\HSg (I (J w)) b a0 n0 f0 a1 n1 f1/\HAc (I (J w)) b a n c f/\(n<=451/\∀i,i<n->FitK 1 (f i))/\∃q':Nat,q'<=q/\Rd b R q'/\Only R w b
theorem Co (R p:Nat)(w:M)(hR:Rd w R p)(hp:p<=3000):Calls Pg 19 #[.pointer (T (Q R 0 Y))] w λe w'=>DAS w R (p+9500) e w':=by
 have HR:=ae hR;have ZN:=hR.lt;obtain⟨W0,P⟩:∃W:M,(w.alloc (N #[Z Y 0 0] 25)).alloc (N #[Z Y 0 0,Z Y 0 0] 44)=W:=⟨_,rfl⟩
 obtain⟨A0,KA,KS,hzA⟩:=nb2 P;have bt:=ae P;clear P;clear hR;go_enter func19,ntmps19;go_wp2_with fail;rw[bt.out];clear bt;refine(zC R p _ (HR.aa A0 ly) (by omega)).mono ?_;rintro e s ⟨a0,n0,c0,f0,a1,n1,c1,f1,a,n,c,f,rfl,hS,ZO,hn,hf,q1,hq1,n9,H⟩;have hs1:=H.size;obtain⟨W1,X⟩:∃W:M,(s.alloc (N #[Z a0 n0 c0,Z a1 n1 c1] 44)).alloc (N #[Z a n c] 25)=W:=⟨_,rfl⟩
 obtain⟨E,A,-,-⟩:=nb2 X;replace A:=A.out;replace E:=E.out;have ZM:=ae X;clear X;have D1:Hid (Dr2 [I (J s)+1,R,I (J w)+1,I (J w),I (J s)] w R (I (J w)+1) (I (J w)) (I (J s)) (I (J s)+1) W1 q1 n0 c0 n1 c1 a0 f0 a1 f1 n c a f):=by
  cases ZM.out
  refine⟨⟨n9.aa E ly,((Only.u A0).trans H).trans (Only.u E),(E.block _ (by omega)).trans ((H.block _ (by omega) (by omega)).trans KS),(E.block _ (by omega)).trans ((H.block _ (by omega) (by omega)).trans KA),A,⟨I (J W0),s,by omega,hS,fc E ly,?_⟩,ZN,by omega,by omega,by omega⟩,SW s _ _,⟨I (J W0),s,by omega,ZO,fc E ly,?_⟩,by omega⟩;all_goals
   intro x D;simp only[A9,nj,PS] at D;omega
 have HF:=ae hf;clear E A hS ZO hf n9 H A0 KS KA HR;have At:I (J w)+2<=I (J s):=by omega
 go_upto_region 2 with fail;rw[ZM.out];clear ZM;generalize th:I (J s)+1=ab at D1 ⊢;have hab2:I (J w)+3<=ab:=by omega
 have ro:I (J s)<ab:=by omega
 clear th;generalize (I (J s))=sb at D1 At ro ⊢;go_wp2_with fail;refine(au R _ 5 _ D1.d.rd (by omega) (by omega) (by omega)).mono ?_;rintro e w2 ⟨z,rfl,hz0,hz1,hR,r⟩;have L:=ae (D1.F r hR (by simp));clear hR r D1;go_upto_if 14 with fail;go_cut [] (λwx=>∃(q m0 C O B m k:Nat) (b0:Option Addr) (ZL:Nat->Source) (ZK:Option Addr) (ZJ:Nat->Target) (b:Option Addr) (g:Nat->Deed),q<=p+5600/\m<=400/\Hid (∀i,i<m->FitI (g i))/\Hid (Dr2 [ab,R,I (J w)+1,I (J w),sb] w R (I (J w)+1) (I (J w)) sb ab wx q m0 C O B b0 ZL ZK ZJ m k b g));case first =>
  by_cases hz:z=0
  ·subst hz;go_wp2_with fail;refine(sS R _ _ L.d.rd (by omega)).mono ?_;rintro e w3 ⟨b0,m0,C,ZL,ZK,O,B,ZJ,rfl,hH,q3,DE,hR,r⟩;have hz3:=r.size;have ph:=ah L.ax;have la:=ah L.d.sx;have ld:=ah L.d.zs;have ZP:=ae (L.F r hR (by simp))
   have l:=ae (ZP.sput (k0:=C) (k1:=B) (by simp) (by omega) (QSp.new hH (by omega) (λx D=>by
    simp only[A9,nj,PS] at D
    omega)))
   obtain⟨x0,ZI,x2,x3,x4⟩:=ZP.d.cells;clear hH hR r L ZP;go_upto_region 4 with fail;generalize World.setCell (World.setCell w3 _ _) _ _=W4 at l ⊢;clear x0 ZI x2 x3 x4;obtain⟨x0,ZI,x2,x3,x4⟩:=l.d.cells;go_wp2_with fail;refine(qZ (I (J w)) m0 C O B b0 ZL ZK ZJ _ ⟨#[116,52]⟩ l.d.qs.at.1).mono ?_;rintro e w5 ⟨b,m,k,g,kk,tt,ra,rn,rc,rfl,ZO,hm,hg,hB⟩;have DS:=hB.size;have hl4:=ah l.ax;have hl5:=ah l.d.zs;have qr:=l.d.o.size;have j:=ae (l.aa hB (by simp))
   have t:=ae (j.put (by simp) (by omega) (QAc.new ZO (by omega) (λx D=>by
    simp only[A9,nj,PS] at D
    omega)))
   obtain⟨y0,y1,y2⟩:=j.acc;have HG:=ae hg;clear ZO hB hg l j x0 ZI x2 x3 x4;go_wp2;go_meet;exact⟨_,_,_,_,_,m,k,_,_,_,_,b,g,by omega,hm,HG,t⟩
  ·have hzb:(z == 0)=ZA:=by simpa using hz
   go_wp2;go_meet;exact⟨_,_,_,_,_,n,c,_,_,_,_,a,f,by omega,hn,HF,L⟩
 case rest =>
 clear L HF hn;obtain⟨q3,n0,c0,n1,c1,n,c,a0,f0,a1,f1,a,f,DE,hn,HF,ZP⟩:=hcut;generalize wc=W3 at ZP ⊢;go_wp2_with fail;refine(au R _ 8 _ ZP.d.rd (by omega) (by omega) (by omega)).mono ?_;rintro e w4 ⟨y,rfl,hy0,hy1,hR,r⟩;have l:=ae (ZP.F r hR (by simp));clear hR r ZP;go_upto_if 25 with fail;go_cut [] (λwx=>∃(q m k:Nat) (b:Option Addr) (g:Nat->Deed),q<=p+6800/\Hid (m<=451/\∀i,i<m->FitK 1 (g i))/\Hid (Dr2 [ab,R,I (J w)+1,I (J w),sb] w R (I (J w)+1) (I (J w)) sb ab wx q n0 c0 n1 c1 a0 f0 a1 f1 m k b g));case first =>
  by_cases hy:y=0
  ·subst hy;obtain⟨y0,y1,y2⟩:=l.acc;go_wp2_with fail;refine(Cd zx 0 1 (by omega) (by omega) R _ a n c f _ (l.qa.at.sl _ (Agr.refl _ _)) (λi hi=>(HF i hi).k) (by omega) l.d.rd (by omega)).mono ?_;rintro e w5 ⟨b,m,k,g,rfl,ZO,⟨q5,Fd,hR,r⟩,dg,fd⟩;have HK:=ae (And.intro dg fd);clear dg fd;have DS:=r.size;have ph:=ah l.ax;have la:=ah l.d.sx;have ld:=ah l.d.zs;have qr:=l.d.o.size;have j:=ae (l.F r hR (by simp))
   have t:=ae (j.put (by simp) (by omega) (QAc.new ZO (by omega) (λx D=>by
    simp only[A9,nj,PS] at D
    omega)))
   clear y0 y1 y2;obtain⟨y0,y1,y2⟩:=j.acc;clear ZO hR r l j;go_wp2;go_meet;exact⟨_,m,k,b,g,by omega,HK,t⟩
  ·have DQ:(y == 0)=ZA:=by simpa using hy
   go_wp2;go_meet;exact⟨_,n,c,a,f,by omega,⟨by omega,λi hi=>(HF i hi).k⟩,l⟩
 case rest =>
 clear l HF hn;obtain⟨q4,n,c,a,f,hq4,HK,j⟩:=hcut;generalize wc=W5 at j ⊢;go_upto_if 30 with fail;go_cut [] (λwx=>∃(q m0 C O B:Nat) (b0:Option Addr) (ZL:Nat->Source) (ZK:Option Addr) (ZJ:Nat->Target),q<=p+9500/\Hid (Dr2 [ab,R,I (J w)+1,I (J w),sb] w R (I (J w)+1) (I (J w)) sb ab wx q m0 C O B b0 ZL ZK ZJ n c a f));case first =>
  by_cases hy:y=1
  ·subst hy;obtain⟨x0,ZI,x2,x3,x4⟩:=j.d.cells;go_wp2_with fail;refine(ve R _ (I (J w)) n0 c0 n1 c1 a0 f0 a1 f1 _ j.d.rd (by omega) ZN j.d.qs.at).mono ?_;rintro e w6 ⟨b0,m0,C,ZL,ZK,O,B,ZJ,rfl,hQ,q6,hq6,hR,r⟩;have hz6:=r.size;have ph:=ah j.ax;have la:=ah j.d.sx;have ld:=ah j.d.zs;have qr:=j.d.o.size;have t:=ae (j.F r hR (by simp));have QQ:QSp (I (J w)) [ab,R,I (J w)+1,I (J w),sb] w6 b0 m0 ZL ZK O ZJ:=by
    rcases hQ with hH|⟨rfl,rfl,rfl,rfl,rfl,rfl⟩
    ·exact QSp.new hH (by omega) (λx D=>by
      simp only[A9,nj,PS] at D
      omega)
    {exact t.d.qs}
   have D7:=ae (t.sput (k0:=C) (k1:=B) (by simp) (by omega) QQ);clear x0 ZI x2 x3 x4;obtain⟨x0,ZI,x2,x3,x4⟩:=t.d.cells;clear hQ QQ hR r j t;go_wp2;go_meet;exact⟨_,_,_,_,_,_,_,_,_,by omega,D7⟩
  ·have DQ:(y == 1)=ZA:=by simpa using hy
   go_wp2;go_meet;exact⟨_,_,_,_,_,_,_,_,_,by omega,j⟩
 case rest =>
 clear j;obtain⟨q5,n0,c0,n1,c1,a0,f0,a1,f1,Fd,t⟩:=hcut;generalize wc=W6 at t ⊢;go_wp2_with fail;have SQ:Hid (∀V,Dr2 [ab,R,I (J w)+1,I (J w),sb] w R (I (J w)+1) (I (J w)) sb ab V q5 n0 c0 n1 c1 a0 f0 a1 f1 n c a f->V.cell? (Q sb 0 Y)=T (Z a0 n0 c0)/\V.cell? (Q sb 1 Y)=T (Z a1 n1 c1)/\V.cell? (Q ab 0 Y)=T (Z a n c)):=λV h=>⟨h.d.cells.1,h.d.cells.2.1,h.acc.1⟩
 have ZQ:=ae (t.aa br.drew (by simp));refine wp_region_held_drew (S:=λV=>V.cell? (Q sb 0 Y)=T (Z a0 n0 c0)/\V.cell? (Q sb 1 Y)=T (Z a1 n1 c1)/\V.cell? (Q ab 0 Y)=T (Z a n c)) (by as_aux_lemma=>kernel_rfl) (SQ _ ZQ) λhS=>?_;have G:=ae hS;clear hS t;generalize W6.drew=u at ZQ G ⊢;iterate 2
  refine cK 0 (v:=?_) rfl rfl (by as_aux_lemma=>kernel_rfl) (λ_ _ _ h=>h) rfl ?_ G ?_;rotate_left
  ·(rintro wz ⟨s0,s1,s2⟩;go_simp)
   (try with_reducible rfl)
  (try simp only[Act.put,nzL])
 have A:=ZQ.d.zs;have ka:=ZQ.d.za;have r0:u.cell? (Q (I (J w)+1) 0 Y)=T (Z Y 0 0):=by simp[World.cell?,A]
 have r1:u.cell? (Q (I (J w)+1) 1 Y)=T (Z Y 0 0):=by simp[World.cell?,A]
 have r2:u.cell? (Q (I (J w)) 0 Y)=T (Z Y 0 0):=by simp[World.cell?,ka]
 have y0:u.frozen? (Q (I (J w)+1) 0 Y)=ZA:=by simp[World.frozen?,A]
 have y1:u.frozen? (Q (I (J w)+1) 1 Y)=ZA:=by simp[World.frozen?,A]
 have y2:u.frozen? (Q (I (J w)) 0 Y)=ZA:=by simp[World.frozen?,ka]
 have l0:=ah A;have l1:=ah ka;have B3:=ae ((((eL (I (J w)) u).setCell (p:=(Q (I (J w)) 0 Y)) ly (Z a n c)).setCell (p:=(Q (I (J w)+1) 0 Y)) (F3 _) (Z a0 n0 c0)).setCell (p:=(Q (I (J w)+1) 1 Y)) (F3 _) (Z a1 n1 c1));have FR:Hid (Fr [ab,R,I (J w)+1,I (J w),sb] u (((u.setCell (Q (I (J w)) 0 Y) (Z a n c)).setCell (Q (I (J w)+1) 0 Y) (Z a0 n0 c0)).setCell (Q (I (J w)+1) 1 Y) (Z a1 n1 c1))):=((Fr.set (by simp) _).trans (Fr.set (by simp) _)).trans (Fr.set (by simp) _);have Bk:=ae (ZQ.d.qs.fr FR).at;have sm:=ae (ZQ.qa.fr FR).at;have R9:=ae (ZQ.d.rd.low B3 ZN);have O9:=ae (ZQ.d.o.then B3);clear A ka B3 FR;have mv:sb≠I (J w):=by omega
 have DH:ab≠I (J w):=by omega
 have aq:ab≠I (J w)+1:=by omega
 have F:sb≠I (J w)+1:=by omega
 refine bB (i:=2) rfl (by as_aux_lemma=>kernel_rfl) λK hK=>?_;go_simp;obtain⟨h1,h2,h3⟩:=G.out;clear G;have G:=ae (show(u.setCell (Q (I (J w)) 0 Y) (Z a n c)).cell? (Q sb 0 Y)=T (Z a0 n0 c0)/\(u.setCell (Q (I (J w)) 0 Y) (Z a n c)).cell? (Q sb 1 Y)=T (Z a1 n1 c1)/\(u.setCell (Q (I (J w)) 0 Y) (Z a n c)).cell? (Q ab 0 Y)=T (Z a n c) from⟨(cell_far _ _ _ _ mv.symm).trans h1,(cell_far _ _ _ _ mv.symm).trans h2,(cell_far _ _ _ _ DH.symm).trans h3⟩);clear h1 h2 h3;refine hK _ _ G ?_;clear hK K
 (try simp only[Act.put,nzL])
 refine bB (i:=3) rfl (by as_aux_lemma=>kernel_rfl) λK hK=>?_;go_simp;refine hK _ _ ⟨(cell_far _ _ _ _ F.symm).trans ((cell_far _ _ _ _ F.symm).trans G.1),(cell_far _ _ _ _ F.symm).trans ((cell_far _ _ _ _ F.symm).trans G.2.1),(cell_far _ _ _ _ aq.symm).trans ((cell_far _ _ _ _ aq.symm).trans G.2.2)⟩ ?_;clear hK K
 (try simp only[Act.put,nzL])
 refine wpAnyH_done (by as_aux_lemma=>kernel_rfl) ?_ _;go_wp2;exact bp (v:=.tuple #[.agg #[Z a n c],.agg #[Z a0 n0 c0,Z a1 n1 c1]]) (by simp[results,results19,go_sem,r0,r1,r2]) rfl ⟨_,_,_,_,_,_,_,_,_,_,_,_,rfl,Bk,sm,HK,q5,by omega,R9,O9⟩
structure DpS (w:M)(R ab:Nat)(W:M)(q n c:Nat)(a:Option Addr)(f:Nat->Deed):Prop where
 rd:Rd W R q
 bl:Below (I (J w)) w W
 z:W.heap[I (J w)]?=T (N #[Z Y 0 0] 25 (0,0))
 x:W.heap[ab]?=T (N #[Z a n c] 25 (0,0))
 qa:QAc (I (J w)) [R,I (J w),ab] W a n c f
 lo:I (J w)<R/\R<ab
section
variable {w W W':M}{R ab q q' n c:Nat}{a:Option Addr}{f:Nat->Deed}
theorem DpS.F (h:DpS w R ab W q n c a f)(b:Only R W W')(hR:Rd W' R q'):DpS w R ab W' q' n c a f:=by have hl:=h.lo;exact⟨hR,h.bl.trans (b.aa (by omega) h.bl.size),(b.block _ (ah h.z) (by omega)).trans h.z,(b.block _ (ah h.x) (by omega)).trans h.x,h.qa.fr (Fr.F b (by simp)),h.lo⟩
theorem DpS.acc (h:DpS w R ab W q n c a f):W.cell? (Q ab 0 Y)=T (Z a n c):=by have hb:=h.x;simp[World.cell?,hb]
end
def vr (w:M)(S:List UInt8)(e:Ending)(b:M):Prop :=
 Below (I (J w)) w b/\∃a c R,e=ZF (.agg #[Z a R.length c])/\DRow b (I (J w)+2) (Z a R.length c) R/\SzD 300001 (R.map (·.1))/\∀E,bC [] (tL (aL S)) E->R.map (·.1)=E
theorem wM (s:ByteArray)(w:M)(r:s.size<=maxLen)(hn:s.data.toList=[]∨300000<s.size):Calls Pg 11 #[U s] w λe q=>fJ w s.data.toList e q:=by
 have j:Hid (kG s.data.toList Y):=iV λf n h=>by
  rcases hn with h1|h1;{exact h1};{have:=lM h;rw[aH] at this;omega}
 have c:=ae ((q9 w).alloc ly (N #[Z Y 0 0] 25));have b:Hid (AcR (w.alloc (N #[Z Y 0 0] 25)) (I (J w)) (Z Y 0 0)):=n6 w _;unfold maxLen at r;unfold fJ;generalize g:s.data.toList=S at j hn ⊢;rcases hn with hn|hn
 ·have m:s=⟨#[]⟩:=by
   refine MP (PE ?_);rw[g,hn]
  subst m;clear g;go_enter func11,ntmps11;go_upto_region 1 with fail;generalize w.alloc (N #[Z Y 0 0] 25)=W at c b ⊢;have c0:=b.out.c0;have f0:=b.out.fz 0;have o:=b.out.lt;have l:=ae (b.out.set (Z Y 0 0));have i:=ae (c.out.setCell (p:=(Q (I (J w)) 0 Y)) ly (Z Y 0 0));go_wp2;try simp only[Exit.inBlock,Exit.then]
  refine bp (fR rfl _ _ (I (J w)) _ rfl l.out) rfl ?_;exact⟨Y,Y,0,[],j.out,rfl,dN _ _,rfl,SzD.nil _,i.out⟩
 ·have hne:¬ s.toList=[]:=iR (by omega);have hp:300000<(s.size:Int):=by omega
  clear g;go_enter func11,ntmps11;go_upto_region 1 with fail;generalize w.alloc (N #[Z Y 0 0] 25)=W at c b ⊢;have c0:=b.out.c0;have f0:=b.out.fz 0;have o:=b.out.lt;have l:=ae (b.out.set (Z Y 0 0));have i:=ae (c.out.setCell (p:=(Q (I (J w)) 0 Y)) ly (Z Y 0 0));go_wp2;try simp only[Exit.inBlock,Exit.then]
  refine bp (fR rfl _ _ (I (J w)) _ rfl l.out) rfl ?_;exact⟨Y,Y,0,[],j.out,rfl,dN _ _,rfl,SzD.nil _,i.out⟩
theorem vt (s:ByteArray)(w:M)(h0:0<s.size)(h3:s.size<=300000)(LR:∀V,Calls Pg 34 #[U s] V λe ZK=>vr V s.data.toList e ZK):Calls Pg 11 #[U s] w λe ZK=>fJ w s.data.toList e ZK:=by
 have X:=ae LR;unfold vr at X;have D:=ae ((q9 w).alloc ly (N #[Z Y 0 0] 25));have H:Hid (AcR (w.alloc (N #[Z Y 0 0] 25)) (I (J w)) (Z Y 0 0)):=n6 w _;have bt:¬ s.toList=[]:=iR (by omega);have hie:s.toList.isEmpty=ZA:=by simpa using bt
 have hp:¬ 300000<(s.size:Int):=by omega
 have ZO:=ae (GC s);have x:s.data.toList≠[]:=λe=>by have:=AP List.length e;rw[aH,nX] at this;omega
 unfold fJ;generalize hS:s.data.toList=S at X ZO x ⊢;have HS:=ae hS;clear LR hS;go_enter func11,ntmps11;go_upto_region 1 with fail;generalize w.alloc (N #[Z Y 0 0] 25)=W at D H ⊢;have ZL:=H.out.lt;go_wp2_with fail;refine(X.out W).mono ?_;rintro e u ⟨m,a,c,R,rfl,hD,P,hG⟩
 ·have G:=(q9 u).alloc ly (N #[Z a R.length c] 25);have A:=ae ((hD.aa G ly).mono (show (I (J w))+1<=I (J W)+2 by omega));have z:=ae ((D.out.trans (m.mono D.out.size)).trans (G.mono (by have:=D.out.size;have:=m.size;omega)));have y:=ae (H.out.aa (m.trans (G.mono m.size)) ZL);have o:Hid (AcR (u.alloc (N #[Z a R.length c] 25)) (I (J u)) (Z a R.length c)):=n6 u _;have O:=ae P;have HG:=ae hG;have hRl:R.length<=300001:=by have:=P.1;simpa using this
  clear G hD P hG m D H;go_upto_region 4 with fail;generalize u.alloc (N #[Z a R.length c] 25)=L at A z y o ⊢;generalize (I (J u))=b4 at o ⊢;have c4:=o.out.c0;have ZN:=o.out.lt;by_cases C:∃f n,cL f n=S
  ·obtain⟨f,n,ZP⟩:=C;have j:R.map (·.1)=nrm f n:=HG.out _ (mM ZP x);have dg:n=R.length:=by rw[<-nF f n,<-j];simp
   subst dg;have K:SlDeed L a R.length f:=by have h1:=A.out.am;rw[j] at h1;exact tM h1
   have g:=qA (f:=f) (n:=R.length) (k:=300001) (by rw[<-j];exact O.out) (by omega);have r:=fF a R.length c f L (by omega) K (λi hi=>(g i hi).1) (λi hi=>(g i hi).2);rw[ZP] at r;have ZJ:=ae (rG ZP x (λE hE=>by rw[<-j];exact HG.out E hE));have es:(⟨S.toArray⟩:ByteArray)=s:=by refine MP (PE ?_);rw[HS.out]
   rw[es] at r;have q:=ae r;have aq:=ae j;clear r K g ZP es j;go_wp2_with fail;refine q.out.mono ?_;rintro e w3 ⟨rfl,b⟩;have D3:=ae (A.out.aa b ly);have ZQ:=ae (z.out.trans (b.mono z.out.size));have l:=ae (y.out.aa b y.out.lt);have C3:=ae (o.out.aa b o.out.lt);clear b q c4 ZN A z y o;have c4:=C3.out.c0;have ZN:=C3.out.lt;have c0:=l.out.c0;have f0:=l.out.fz 0;have ZL:=l.out.lt;have ZI:=ae (l.out.set (Z a R.length c));have ZM:=ae (ZQ.out.setCell (p:=(Q (I (J w)) 0 Y)) ly (Z a R.length c));have D5:=ae ((D3.out.set (p:=(Q (I (J w)) 0 Y)) (e:=0) (.inl (by show (I (J w))<I (J w)+1;omega)) (Z a R.length c)).mono (show (I (J w))<=I (J w)+1 by omega));go_wp2;try simp only[Exit.inBlock,Exit.then]
   refine bp (fR rfl _ _ (I (J w)) _ rfl ZI.out) rfl ?_;exact⟨T (nrm f R.length),a,c,R,ZJ.out,rfl,D5.out,aq.out,O.out,ZM.out⟩
  ·have t:∀f n,cL f n≠S:=λf n h=>C ⟨f,n,h⟩;have ZJ:Hid (kG S Y):=iV λf n h=>absurd h (t f n);have g:=Ao O.out (by omega);have r:=fF a R.length c (dF (R.map (·.1))) L (by omega) A.out.am (λi hi=>(g i (by simpa using hi)).1) (λi hi=>(g i (by simpa using hi)).2);have B:=t (dF (R.map (·.1))) R.length;generalize cL (dF (R.map (·.1))) R.length=F at r B;have q:=ae r;have ne1:(F == S)=ZA:=by simpa using B
   clear r g C t;go_wp2_with fail;refine q.out.mono ?_;rintro e w3 ⟨rfl,b⟩;have ZQ:=ae (z.out.trans (b.mono z.out.size));have l:=ae (y.out.aa b y.out.lt);clear b q c4 ZN A z y o;have c0:=l.out.c0;have f0:=l.out.fz 0;have ZL:=l.out.lt;have ZI:=ae (l.out.set (Z Y 0 0));have ZM:=ae (ZQ.out.setCell (p:=(Q (I (J w)) 0 Y)) ly (Z Y 0 0));have e1:¬ F=s.toList:=by rw[ZO.out];exact B
   have e2:(F == s.toList)=ZA:=by simpa using e1
   go_wp2;try simp only[Exit.inBlock,Exit.then]
   refine bp (fR rfl _ _ (I (J w)) _ rfl ZI.out) rfl ?_;exact⟨Y,Y,0,[],ZJ.out,rfl,dN _ _,rfl,SzD.nil _,ZM.out⟩
theorem ri (s:ByteArray)(w:M)(f:s.size<=maxLen)(c:s.size<=300000->∀V,Calls Pg 34 #[U s] V λe b=>vr V s.data.toList e b):Calls Pg 11 #[U s] w λe b=>fJ w s.data.toList e b:=by
 by_cases h:s.data.toList=[]∨300000<s.size;{exact wM s w f h};{refine vt s w ?_ (by omega) (c (by omega));have h1:s.data.toList≠[]:=λe=>h (.inl e);have:=IB.2 h1;rw[aH] at this;exact this}
theorem ni (ac:Option Addr)(o cap:Nat)(w:M)(hn:(o:Int)<=1048576)(hc:o<=cap)(ZL:ByteSl w ac o):Calls Pg 5 #[Z ac o cap] w λe w'=>DFa w e w':=by
 have V:=ae ZL;clear ZL;obtain⟨W0,t⟩:∃W:M,w.alloc (N #[Z Y 0 0] 25)=W:=⟨_,rfl⟩
 obtain⟨K,O,hzA⟩:=nb1 t;have D:=ae t;clear t;go_enter func5,ntmps5;go_wp2_with fail;rw[D.out];clear D;refine(pu ac o cap W0 hn hc (V.aa K ly)).mono ?_;rintro e w1 ⟨R,rfl,hRz,q,h⟩;have S:=ae q;have ZP:=ae (K.trans (h.mono (by omega)));have ZM:=ae ((h.block (I (J w)) (by omega)).trans O);have hs1:=h.size;have hRl:=q.lt;clear q h K O V;go_wp2_with fail;refine(Co R 0 _ S (by omega)).mono ?_;rintro e C ⟨a0,n0,c0,f0,a1,n1,c1,f1,a,n,c,f,rfl,-,ZN,-,q2,hq2,G,i⟩;have hs2:=i.size;obtain⟨ZJ,A⟩:∃W:M,(C.alloc (N #[Z a n c] 25)).alloc (N #[Z a0 n0 c0,Z a1 n1 c1] 44)=W:=⟨_,rfl⟩
 obtain⟨r,F,-,-⟩:=nb2 A;have H:=ae A;clear A;have B:Hid (DpS w R (I (J C)) ZJ q2 n c a f):=by refine⟨G.aa r ly,(ZP.trans (i.aa (by omega) ZP.size)).trans (r.out.mono (by omega)),(r.out.block _ (by omega)).trans ((i.block _ (by omega) (by omega)).trans ZM),F,⟨I (J w1),C,by omega,ZN,fc r ly,λx hx=>?_⟩,by omega,by omega⟩;simp only[A9,nj,PS] at hx;omega
 clear r F ZN G i ZP ZM S;go_upto_region 3 with fail;rw[H.out];clear H;generalize (I (J C))=ab at B ⊢;go_wp2_with fail;refine(au R _ 40 _ B.rd (by omega) (by omega) (by omega)).mono ?_;rintro e ZK ⟨z,rfl,hz0,hz1,hR,s⟩;have b:=ae (B.F s hR);clear hR s B;by_cases hz:z=0
 ·subst hz;go_wp2_with fail;refine(au R _ 3 _ b.rd (by omega) (by omega) (by omega)).mono ?_;rintro e w4 ⟨y,rfl,hy0,hy1,hR,s⟩;have u:=ae (b.F s hR);clear hR s b;have hw:IntKind.i64.wrap (y - 1)=y - 1:=by rw[wA];omega
  go_wp2_with fail;refine(zF (y - 1) (by omega) (by omega) _).mono ?_;rintro e X ⟨L,ZQ,c5,f5,rfl,E,l⟩;have g:=(l.block _ (ah u.z)).trans u.z;have m:=ah u.z;have r0:X.cell? (Q (I (J w)) 0 Y)=T (Z Y 0 0):=by simp[World.cell?,g]
  have y0:X.frozen? (Q (I (J w)) 0 Y)=ZA:=by simp[World.frozen?,g]
  have l0:=ah g;have ZI:=ae ((E.agr (qM (j:=0) m (Z L ZQ c5))).mono (NK m));have ZO:=ae ((u.bl.trans (l.mono (NK m))).setCell (p:=(Q (I (J w)) 0 Y)) ly (Z L ZQ c5));clear g E l u;go_wp2;exact bp (v:=.agg #[Z L ZQ c5]) (by simp[results,results5,go_sem,r0]) rfl ⟨_,_,_,_,rfl,ZI,ZO⟩
 ·have hzb:(z == 0)=ZA:=by simpa using hz
  have g:=b.z;have x0:=b.acc;have r0:ZK.cell? (Q (I (J w)) 0 Y)=T (Z Y 0 0):=by simp[World.cell?,g]
  have y0:ZK.frozen? (Q (I (J w)) 0 Y)=ZA:=by simp[World.frozen?,g]
  have l0:=ah g;have l1:=ah b.x;have ZO:=ae (b.bl.setCell (p:=(Q (I (J w)) 0 Y)) ly (Z a n c));have P:=ae (b.qa.fr (Fr.set (x:=I (J w)) (j:=0) (by simp) (Z a n c))).at;clear g b;go_wp2;exact bp (v:=.agg #[Z a n c]) (by simp[results,results5,go_sem,r0]) rfl ⟨_,_,_,_,rfl,P,ZO⟩
def DTx (w:M)(e:Ending)(b:M):Prop:=∃t:ByteArray,e=ZF (U t)/\(t.size:Int)<=700000/\Below (I (J w)) w b
theorem vu (ac:Option Addr)(b cap:Nat)(w:M)(hn:(b:Int)<=1048576)(G:b<=cap)(C:ByteSl w ac b):Calls Pg 10 #[Z ac b cap] w λe L=>DTx w e L:=by
 have r:=ae C;clear C;go_enter func10,ntmps10;go_wp2_with fail;refine(pu ac b cap w hn G r).mono ?_;rintro e ZQ ⟨R,rfl,p,o,h⟩;have E:=ae (r.aa h ly);have ZP:=ae o;have y:=ae h;clear o h r;go_wp2_with fail;refine(ni ac b cap ZQ hn G E).mono ?_;rintro e K ⟨a,n,c,f,rfl,g,j⟩;have hn2:=g.hn;have u:=ae (fF a n c f K (by omega) g.here (λi hi=>(g.ak i hi).fits) (λi hi=>(g.ak i hi).sized));have D:=nh f n;generalize (⟨(cL f n).toArray⟩:ByteArray)=s at u D;have H:=ae (ZP.aa j ly);have A:=ae (y.trans (j.mono y.size));clear g j ZP y E;go_wp2_with fail;refine u.out.mono ?_;rintro e w3 ⟨rfl,l⟩;have F:=ae (H.aa l ly);have x:=ae (A.trans (l.mono A.size));clear l H A u;go_wp2_with fail;refine(au R _ 2 _ F (by omega) (by omega) (by omega)).mono ?_;rintro e w4 ⟨z,rfl,hz0,hz1,hR,m⟩;have ZO:=ae hR;have B:=ae (x.trans (m.aa p x.size));clear hR m F x;by_cases hz:z=0;{subst hz;go_wp2_with fail;refine(yp R _ s _ ZO (by omega) (by omega)).mono ?_;rintro e w5 ⟨t,rfl,ht,q,hq,hR,m⟩;have ZN:=ae (B.trans (m.aa p B.size));clear hR m;go_wp2;go_ret;exact⟨t,rfl,by omega,ZN⟩}
 ·have hzb:(z == 0)=ZA:=by simpa using hz
  go_wp2;go_ret;exact⟨s,rfl,by omega,B⟩
theorem qj (s:ByteArray)(w:M)(b:s.size<=maxLen):Calls Pg 11 #[U s] w λe c=>fJ w s.data.toList e c :=
 ri s w b (λh V=>zE s V h)
structure FfS (w:M)(ab:Nat)(a:Option Addr)(n c:Nat)(f:Nat->Deed)(V:M):Prop where
 bl:Below (I (J w)) w V
 ac:HAc (I (J w)) V a n c f
 bx:V.heap[ab]?=T (N #[Z a n c] 25 (0,0))
theorem FfS.aa {w V ZK:M}{ab n c:Nat}{a:Option Addr}{f:Nat->Deed}(h:FfS w ab a n c f V)(b:Below (I (J V)) V ZK):FfS w ab a n c f ZK:=⟨h.bl.trans (b.mono h.bl.size),h.ac.agr (fc b ly),(b.block _ (ah h.bx)).trans h.bx⟩
theorem FfS.cell {w V:M}{ab n c:Nat}{a:Option Addr}{f:Nat->Deed}(h:FfS w ab a n c f V):V.cell? (Q ab 0 Y)=T (Z a n c):=by have hb:=h.bx;simp[World.cell?,hb]
theorem wO (x:Deed):fv x (norm x):=⟨rfl,rfl,rfl,rfl,rfl,λ_ b=>(p7 b).symm,rfl,λ_ b=>(p7 b).symm⟩
theorem Cp {s:ByteArray}{S:List UInt8}(h:s=⟨S.toArray⟩):s.data.toList=S:=by rw[h]
theorem Fu (a:Option Addr)(n cap:Nat)(w:M)(hn:(n:Int)<=9223372036854775807)(hc:n<=cap)(hS:ByteSl w a n)(hL:Lay w)(hE:EV w 2):Calls Pg 3 #[Z a n cap] w λe ZL=>e=ZF (.bool true)/\Below (I (J w)) w ZL:=by
 by_cases hbig:1048576<(n:Int)
 {go_enter VL,ntmps3;go_wp2;go_ret;exact⟨rfl,eL _ _⟩};have l:=ae (λV (j:Below (I (J w)) w V)=>(⟨hL.aa j ly,hE.aa j hE.1⟩:Lay V/\EV V 2));have DM:=ae (ni a n cap w (by omega) hc hS);have DR:=ae (λV (j:Below (I (J w)) w V)=>vu a n cap V (by omega) hc (hS.aa j ly));clear hL hE hS hc;go_enter VL,ntmps3;go_wp2_with fail;refine DM.out.mono ?_;rintro e O ⟨d,m,c,f,rfl,B,ZO⟩;clear DM;have hm5:=B.hn;have hmc:=B.cap;have HF:=ae (show ∀i,i<m->dk (f i) from λi hi=>(B.ak i hi).fits);have ZQ:=ae (show ∀i,i<m->fD (f i) from λi hi=>(B.ak i hi).sized);obtain⟨W1,R⟩:∃W:M,O.alloc (N #[Z d m c] 25)=W:=⟨_,rfl⟩
 obtain⟨A1,k1,-⟩:=nb1 R;have n9:=ae R;have C:Hid (FfS w (I (J O)) d m c f W1):=⟨ZO.trans (A1.out.mono ZO.size),B.agr (fc A1 ly),k1⟩
 obtain⟨s,X⟩:∃s:ByteArray,s=⟨(cL f m).toArray⟩:=⟨_,rfl⟩
 have S:(s.size:Int)<=300000:=by rw[X];exact nh f m
 have FI:Hid (∀V,FfS w (I (J O)) d m c f V->Calls Pg 6 #[.agg #[Z d m c]] V λe ZL=>e=ZF (U s)/\Below (I (J V)) V ZL):=λV j=>by rw[X];exact ij d m c f V (by omega) j.ac.here (by omega) HF (l.out V j.bl).1.tb (l.out V j.bl).1.tw (l.out V j.bl).1.pw
 have FS:Hid (∀V,FfS w (I (J O)) d m c f V->Calls Pg 7 #[.agg #[Z d m c]] V λe ZL=>e=ZF (U s)/\Below (I (J V)) V ZL):=λV j=>by rw[X];exact fF d m c f V (by omega) j.ac.here HF ZQ
 have F:=ae (Cp X);clear A1 k1 B ZO R X;go_upto_region 4 with fail;rw[n9.out];clear n9;generalize (I (J O))=ab at C FI FS ⊢;have x1:=C.cell;have l1:=ah C.bx;go_wp2_with fail;refine(FI.out _ C).mono ?_;rintro e w2 ⟨rfl,g⟩;have P:=ae (C.aa g);clear g C x1 l1 FI;have x2:=P.cell;have l2:=ah P.bx;go_wp2_with fail;refine(FS.out _ P).mono ?_;rintro e w3 ⟨rfl,g⟩;have D3:=ae (P.aa g);clear g P x2 l2 FS;go_wp2_with fail;refine(kz s _ (by unfold maxLen;omega) (l.out _ D3.bl).1 (l.out _ D3.bl).2).mono ?_;rintro e w4 ⟨r,a4,c4,A,ZK,rfl,bt,qr,DE,g⟩;have D4:=D3.aa g;obtain⟨W4,L⟩:∃W:M,w4.alloc (N #[Z a4 A.length c4] 25)=W:=⟨_,rfl⟩
 obtain⟨A4,G,-⟩:=nb1 L;have aq:=ae L;have y:=ae (D4.aa A4);have S5:=ae (bt.aa A4 ly).am;have q:=ae ZK;have z:=ae qr;rw[F.out] at q;clear g D4 D3 bt L A4 ZK qr DE;obtain⟨ok,ZP⟩:∃ok,r.isSome=ok:=⟨_,rfl⟩
 have u:=ae ZP;rw[ZP];clear ZP;go_upto_region 8 with fail;rw[aq.out];clear aq;generalize (I (J w4))=bb at G ⊢;go_cut [52] (λs wx=>s=.bool ZA/\Hid (Below (I (J w)) w wx));case first =>
  have x5:=y.cell;have l5:=ah y.bx;have l6:=ah G.out;have x6:W4.cell? (Q bb 0 Y)=T (Z a4 A.length c4):=by simp[World.cell?,G.out]
  by_cases E:cL f m=[]
  ·obtain rfl:r=Y:=by
    cases r with
    |none=>rfl
    |some D =>obtain⟨f',n',h1,h2,-⟩:=q.1 D rfl;exact absurd E h2
   obtain rfl:ZA=ok:=u.out;have h4:A=[]:=List.map_eq_nil_iff.1 z.out;subst h4;have Bk:s=⟨#[]⟩:=MP (PE (by rw[F.out,E]));subst Bk;simp only[nX] at x6;clear q z u E F G S5 S x5 l5;go_wp2;go_meet;exact⟨rfl,y.bl⟩
  ·obtain rfl:=q.2 f m rfl E;obtain rfl:true=ok:=u.out;have h4:A.map (·.1)=nrm f m:=z.out;have fd:A.length=m:=by have:=AP List.length h4;rw[nF,PK] at this;exact this
   have ur:¬ s.toList=[]:=by rw[GC,F.out];exact E
   have hie:s.toList.isEmpty=ZA:=by simpa using ur
   have H4:=ae h4;have At:=ae fd;clear h4 fd E q z u F G S;go_wp2_with fail;refine(vg d m c f a4 A.length c4 (dF (A.map (λx=>x.1))) _ (by omega) y.ac.here S5.out HF).mono ?_;rintro e w6 ⟨b,rfl,hb,g⟩
   obtain rfl:b=true:=hb.2 ⟨At,λi hi=>by
    rw[H4.out,An f hi]
    exact wO _⟩
   have p:=ae (y.bl.trans (g.mono y.bl.size));clear hb g;go_wp2;go_meet;exact⟨rfl,p⟩
 case rest =>
 obtain⟨rfl,ZJ⟩:=hcut;clear y S5 q z G HF ZQ F S u;generalize wc=W5 at ZJ ⊢;go_wp2_with fail;refine(DR.out _ ZJ).mono ?_;rintro e w6 ⟨t,rfl,ht,g⟩;have p:=ae (ZJ.trans (g.mono ZJ.size));clear g ZJ DR;go_wp2_with fail;refine(kz t _ (by unfold maxLen;omega) (l.out _ p).1 (l.out _ p).2).mono ?_;rintro e w7 ⟨r,a7,c7,o,ZK,rfl,ZM,mv,dg,g⟩;obtain⟨W7,ZN⟩:∃W:M,w7.alloc (N #[Z a7 o.length c7] 25)=W:=⟨_,rfl⟩
 obtain⟨A7,k7,-⟩:=nb1 ZN;have ph:=ae ZN;have hcp:=vm ZM.i;have D7:=ae (ZM.aa A7 ly);have B7:=ae ((p.trans (g.mono p.size)).trans (A7.out.mono (p.trans (g.mono p.size)).size));have q:=ae ZK;have z:=ae mv;have ZQ:=ae dg;clear g ZM ZK mv dg ZN A7 p;go_wp2_with fail;rw[ph.out];clear ph;generalize (I (J w7))=xb at k7 ⊢;refine(qj t _ (by unfold maxLen;omega)).mono ?_;rintro e w8 ⟨r8,a8,c8,R8,sm,rfl,-,-,-,g⟩;obtain rfl:=Dk q sm;obtain⟨W8,K⟩:∃W:M,w8.alloc (N #[Z a8 R8.length c8] 25)=W:=⟨_,rfl⟩
 obtain⟨A8,-,-⟩:=nb1 K;have ld:=ae K;have C8:=g.trans (A8.out.mono g.size);have D8:=ae (D7.aa C8 ly);have H:=ae (B7.trans (C8.mono B7.size));have k8:=ae ((C8.block _ (ah k7.out)).trans k7);clear g sm K A8 C8 D7 B7 k7;go_upto_region 13 with fail;rw[ld.out];clear ld;have l8:=ah k8.out;have x8:W8.cell? (Q xb 0 Y)=T (Z a7 o.length c7):=by simp[World.cell?,k8.out]
 cases r with
 |none =>simp only[Option.isSome_none];go_wp2;go_ret;exact⟨rfl,H⟩
 |some D =>
  obtain⟨ZI,n7,h1,h2,h3⟩:=q.1 D rfl;have h4:o.map (·.1)=nrm ZI n7:=z.out.trans h3;have DH:n7=o.length:=by have:=AP List.length h4;rw[nF,PK] at this;exact this.symm
  subst DH;have ro:SlDeed W8 a7 o.length ZI:=by have h:=D8.am;rw[h4] at h;exact tM h
  have la:=qA (f:=ZI) (n:=o.length) (k:=300001) (by rw[<-h4];exact ZQ) (by omega);have hRl:o.length<=300001:=by have:=ZQ.1;simpa using this
  have FA:=ij a7 o.length c7 ZI W8 (by omega) ro (by omega) (λi hi=>(la i hi).1) (l.out _ H).1.tb (l.out _ H).1.tw (l.out _ H).1.pw;have es:(⟨(cL ZI o.length).toArray⟩:ByteArray)=t:=MP (PE (by rw[h1]));rw[es] at FA;have th:=ae FA;clear FA ro la h1 h2 h3 h4 es;simp only[Option.isSome_some];go_wp2_with fail;refine th.out.mono ?_;rintro e w9 ⟨rfl,g⟩;have B9:=ae (H.trans (g.mono H.size));clear g;go_wp2;go_ret;exact⟨rfl,B9⟩
