import Derived.Test.YtamacmnikdejeaaGreatDoorYQ
set_option maxRecDepth 100000
set_option maxHeartbeats 8000000
open Go.Addr renaming mk->T
open Go.Value renaming slice->Y,string->U,int->I,agg->QV
open Option renaming none->Z,some->N
open Go.Obj renaming cells->Q
open Go.IntKind renaming i64->J
open Go renaming World->H
open Go.Ending renaming returned->QU
namespace Go.Proofs.YtamacmnikdejeaaGreatDoor.Vp
open RowKit Go.Sort
theorem sA (a:Option Addr)(n cap:Nat)(f:Nat->aj)(w:H)(hn:(n:Int)<=1048576)(hv:SlDeed w a n f)(B:∀ i,i<n->cS (f i))(O:∀ i,i<n->eF (f i)):Calls Tryz.prog 28 #[QV #[Y a n cap]] w fun e w'=>∃ b off m c:Nat,e=QU (Y (N (T b off Z)) m c)/\m=(sW f n).length/\RowStr w' b off m (nmF (sW f n))/\Below w.heap.size w w':=by
 have QX:=ae hv;have s:=ae B;have HZ:=ae O;clear hv B O;have D:=ae (((q9 w).alloc ly (Q #[Y a n cap] 25)).alloc (by simp) (Q #[] 9));have V:((w.alloc (Q #[Y a n cap] 25)).alloc (Q #[] 9)).cell? (T w.heap.size 0 Z)=N (Y a n cap):=by simp
 have ZB:=ae (show RowStr ((w.alloc (Q #[Y a n cap] 25)).alloc (Q #[] 9)) (w.heap.size+1) 0 0 (nmF []) from⟨by simp,fun i hi=>absurd hi (JP _)⟩);obtain⟨Q2,QW⟩:∃ Q2,Q2=sW f n:=⟨_,rfl⟩
 rw[<-QW];have G:=ae (show Q2=if aZ f n=true then cL f n else [] from QW);clear QW;go_enter Tryz.func28,Tryz.ntmps28;go_wp2_with fail;generalize (w.alloc (Q #[Y a n cap] 25)).alloc (Q #[] 9)=W at D V ZB ⊢;have hz:w.heap.size<W.heap.size:=by have:=ZB.1;omega
 refine(oJ a n cap f _ hn (QX.below D ly) s HZ).mono ?_;rintro e S ⟨rfl,g⟩;have t:=ae (D.trans (g.mono D.size));have E1:=ae (ZB.below g ly);have k1:=(g.cell (p:=(T w.heap.size 0 Z)) hz).trans V;have K:w.heap.size<S.heap.size:=lj hz g.size;clear g D ZB V hz;have R:=ae (fun h:aZ f n=true=>(⟨dX h,cZ h⟩:(1<=n/\n<=400/\aK (bi f) n=-1)/\∀ p,p<n->(f p).linksN<=200));generalize aZ f n=r at G R ⊢;cases r with
 | false =>obtain rfl:Q2=[]:=G.out;go_wp2;go_ret;exact⟨w.heap.size+1,0,0,0,rfl,rfl,E1,t⟩
 | true =>
  obtain rfl:Q2=cL f n:=G.out;obtain⟨⟨hn1,hn4,-⟩,hl⟩:=R.out rfl;have Q9:=ae hl;clear hl;clear G R s;obtain⟨b,off,rfl,F⟩:=QX.resolve_left (by omega);have HR:=ae F;clear QX F;go_wp2;go_loopw [3,4] (fun v i wr=>∃ (k E o m z:Nat),k<=n/\i=I J k/\v=Y (N (T E o Z)) m z/\Hid (m=(cL f k).length)/\m<=z/\Hid (RowStr wr E o m (nmF (cL f k)))/\Hid (Below S.heap.size S wr)) (fun _ i _=>n - (intOf i).toNat);case atStart=>exact⟨0,w.heap.size+1,0,0,0,by omega,rfl,rfl,rfl,by omega,E1,eL _ _⟩
  case round =>
   obtain⟨k,E,o,m,z,hk,rfl,rfl,s,hmc,HK,x⟩:=hrel;have k2:=(x.cell (p:=(T w.heap.size 0 Z)) K).trans k1;by_cases ZA:k<n
   ·have hm0:m<=k*201:=by have h1:=s.out;have h2:=mN (f:=f) (k:=k) (fun p hp=>Q9 p (by omega));omega
    have hm:(m:Int)<=1048576:=by omega
    have hlk:=Q9.out k ZA;have HS:=ae (show cL f (k+1)=gN (bX (cL f k) (f k).name.toList) (f k).links (f k).linksN from rfl);obtain⟨p0,p1,p2,p3,⟨a0,cap0,p4,q4⟩,⟨a1,cap1,p5,q5⟩⟩:=(HR.below (t.trans (x.mono t.size)) ly).2 k ZA;clear q4 p4 p1 p2 p3;have Q5:=ae q5;clear q5;have bt:=(HR.below (t.trans (x.mono t.size)) ly).1;have P5:=ae p5;clear p5;go_wp2_with (go_at_call 56;refine(mM E o m z (cL f k) (f k).name _ s hm (by omega) HK).mono ?_;rintro e w2 ⟨b2,aq,m2,c2,rfl,A,ld,M,g⟩;have X:=ae A;have R2:=ae M;have D2:=ae g;have B2:=ae (x.trans (g.mono x.size));clear A M g);have A:m2<=k*201+1:=by have h1:=s.out;have h2:=X.out;have h3:=oC (cL f k) (f k).name.toList;omega
    have c2k:=ld;go_loopw [3,5] (fun v i w3=>∃ (j C l q c3:Nat),j<=(f k).linksN/\i=I J j/\v=Y (N (T C l Z)) q c3/\Hid (q=(gN (bX (cL f k) (f k).name.toList) (f k).links j).length)/\q<=c3/\Hid (RowStr w3 C l q (nmF (gN (bX (cL f k) (f k).name.toList) (f k).links j)))/\Hid (Below w2.heap.size w2 w3)) (fun _ i _=>(f k).linksN - (intOf i).toNat);case atStart=>exact⟨0,b2,aq,m2,c2,by omega,rfl,rfl,X,by omega,R2,eL _ _⟩
    case round =>
     obtain⟨j,C,l,q,c3,hj,rfl,rfl,y,hmc3,Q0,u⟩:=hrel;have D3:=ae (D2.trans (u.mono D2.size));have B3:=ae (B2.trans (u.mono B2.size));have k3:=(B3.cell (p:=(T w.heap.size 0 Z)) K).trans k1;have p6:=(D3.cell (p:=(T b (off+k*6+5) Z)) bt).trans P5;have Q6:=ae (Q5.below D3 ly);have la:(q:Int)<=1048576:=by have h1:=y.out;have h2:=sV (bX (cL f k) (f k).name.toList) (f k).links j;have h3:=X.out;omega
     by_cases fd:j<(f k).linksN
     ·obtain⟨b4,off4,rfl,P⟩:=Q6.resolve_left (by omega)
      obtain⟨r0,r1,r2,r3⟩:=P.2 j fd;clear r1 r2 r3 P;go_wp2_with (go_at_call 56;refine(mM C l q c3 _ ((f k).links j).name _ y la (by omega) Q0).mono ?_;rintro e w4 ⟨b5,QY,m5,c5,rfl,L,hc5,QZ,g⟩;have H5:=ae L;have R5:=ae QZ;have B5:=ae (u.trans (g.mono u.size));clear L QZ g);exact⟨⟨j+1,b5,QY,m5,c5,by omega,by go_num,rfl,H5,by omega,R5,B5⟩,by simp[intOf];omega⟩
     ·obtain rfl:j=(f k).linksN:=by omega
      go_wp2;exact⟨⟨k+1,C,l,q,c3,by omega,by go_num,rfl,by rw[HS.out];exact y,by omega,by rw[HS.out];exact Q0,B3⟩,by simp[intOf];omega⟩
   ·obtain rfl:k=n:=by omega
    go_wp2;go_ret;exact⟨E,o,m,z,rfl,s,HK,t.trans (x.mono t.size)⟩
end Go.Proofs.YtamacmnikdejeaaGreatDoor.Vp
namespace Go.Proofs.YtamacmnikdejeaaGreatDoor.Vp
open RowKit Ca
theorem Ee:∀ (Q2:List TlR) (i j:Nat) (_:j<3) (r:TlR),Q2[i]?=N r->(Q2.flatMap tlV)[i*3+j]?=(tlV r)[j]?
 | [],i,j,_,r,h=>by simp at h
 | y :: Q2,0,j,hj,r,h=>by simp at h;subst h;rw[JU,OT,DN,IH (by simp[tlV];omega)]
 | y :: Q2,i+1,j,hj,r,h=>by rw[JU,p8 (by simp[tlV];omega)];have:=Ee Q2 i j hj r (by simpa using h);rw[show(i+1)*3+j - (tlV y).length=i*3+j by simp[tlV];omega];exact this
structure WTRow (w:H)(a:Option Addr)(c:Nat)(Q2:List TlR):Prop where
 own:∃ base,w.ownsRow base 111 3 (Y a Q2.length c) Q2.length (Q2.flatMap tlV)
 sl:∀ r∈Q2,SlIns w r.2.1 r.1.actN r.1.act
theorem WTRow.below {w g:H}{a:Option Addr}{c B:Nat}{Q2:List TlR}(h:WTRow w a c Q2)(hb:Below B w g)(f:w.heap.size<=B):WTRow g a c Q2:=by obtain⟨⟨b,h1⟩,h2⟩:=h;exact⟨⟨b,own_below h1 hb f⟩,fun r i=>(h2 r i).below hb f⟩
theorem WTRow.at {w:H}{a:Option Addr}{c i:Nat}{Q2:List TlR}{r:TlR}(h:WTRow w a c Q2)(f:Q2[i]?=N r):∃ g,a=N (T g 0 Z)/\g<w.heap.size/\w.cell? (T g (i*3) Z)=N (I J r.1.kind)/\w.cell? (T g (i*3+1) Z)=N (U r.1.text)/\w.cell? (T g (i*3+2) Z)=N (Y r.2.1 r.1.actN r.2.2):=by
 obtain⟨⟨base,h1⟩,-⟩:=h;have hi:=(gM.1 f).1;obtain⟨g,c',e⟩:=kN h1 (by omega);cases e
 have b:∀ j,j<3->∀ u,(tlV r)[j]?=N u->w.cell? (T g (i*3+j) Z)=N u:=fun j n u m=>by
  have:=h1.cells (g:=g) rfl (i*3+j) u (by rw[Ee Q2 i j n r f];exact m);have l:((T g 0 Z):Addr).add (i*3+j)=⟨g,0+(i*3+j),Z⟩:=by unfold Addr.add;split<;>simp_all
  rw[l,DN] at this;exact this
 exact⟨g,rfl,(h1.lt g rfl).2,b 0 (by omega) _ rfl,b 1 (by omega) _ rfl,b 2 (by omega) _ rfl⟩
theorem vl (g:Nat->Link)(nm:List UInt8)(j:Nat):∀ x∈cD g nm j,x.actN<=1048576:=by
 induction j with
 | zero=>intro x b;cases b
 | succ j c =>
  intro x b;rw[cD] at b;rcases hU.1 b with b | b
  ·exact c x b
  ·split at b
   ·simp at b
    subst b;exact AI _
   ·cases b
theorem pJ {f:Nat->aj}{nm:List UInt8}{n:Nat}(c:∀ i,i<n->cS (f i)):∀ x∈aJ f nm n,x.actN<=1048576:=by
 induction n with
 | zero=>intro x b;cases b
 | succ k g =>
  intro x b;rw[aJ] at b;rcases hU.1 b with b | b
  ·rcases hU.1 b with b | b
   ·exact g (fun i hi=>c i (by omega)) x b
   ·split at b
    ·simp at b
     subst b;exact(c k (by omega)).1
    ·cases b
  ·exact vl _ _ _ x b
theorem zN (w:H)(u v:Value)(i:Array Value)(t l:TypeId):(((w.alloc (Q #[u] t)).alloc (Q #[v] t)).alloc (Q i l)).cell? (T w.heap.size 0 Z)=N u/\(((w.alloc (Q #[u] t)).alloc (Q #[v] t)).alloc (Q i l)).cell? (T (w.heap.size+1) 0 Z)=N v:=by
 obtain⟨b,j⟩:∃ b,w.alloc (Q #[u] t)=b:=⟨_,rfl⟩
 obtain⟨c,f⟩:∃ c,b.alloc (Q #[v] t)=c:=⟨_,rfl⟩
 obtain⟨g,o⟩:∃ g,c.alloc (Q i l)=g:=⟨_,rfl⟩
 rw[j,f,o];have z1:b.heap.size=w.heap.size+1:=by rw[<-j];simp
 have z2:c.heap.size=w.heap.size+2:=by rw[<-f];simp;omega
 have h:Below c.heap.size c g:=by rw[<-o];exact br.alloc ly _
 have m:Below b.heap.size b g:=(by rw[<-f];exact br.alloc ly _:Below b.heap.size b c).trans (h.mono (by omega));have n1:b.cell? (T w.heap.size 0 Z)=N u:=by rw[<-j];simp
 have n:c.cell? (T b.heap.size 0 Z)=N v:=by rw[<-f];simp
 rw[z1] at n;exact⟨(m.cell (p:=(T w.heap.size 0 Z)) (by show w.heap.size<_;omega)).trans n1,(h.cell (p:=(T (w.heap.size+1) 0 Z)) (by show w.heap.size+1<_;omega)).trans n⟩
theorem vm (a0:Option Addr)(n c0:Nat)(f:Nat->aj)(a1:Option Addr)(m c1:Nat)(g:Nat->aj)(w:H)(hn:(n:Int)<=1048576)(hm:(m:Int)<=1048576)(Hh:SlDeed w a0 n f)(Hb:SlDeed w a1 m g)(fd:∀ i,i<n->cS (f i))(bt:∀ i,i<m->cS (g i))(GE:∀ i,i<n->eF (f i))(DE:∀ i,i<m->eF (g i)):Calls Tryz.prog 16 #[QV #[Y a0 n c0],QV #[Y a1 m c1]] w fun e x=>∃ b off k c:Nat,e=QU (Y (N (T b off Z)) k c)/\k=(dd f n g m).length/\RowStr x b off k (nmF (dd f n g m))/\Below w.heap.size w x:=by
 have n9:=ae Hh;have Hi:=ae Hb;have ph:=ae fd;have GY:=ae bt;have GP:=ae GE;have Hx:=ae DE;clear Hh Hb fd bt GE DE;have A0:=ae ((((q9 w).alloc ly (Q #[Y a0 n c0] 25)).alloc (by simp) (Q #[Y a1 m c1] 25)).alloc (by simp;omega) (Q #[] 9));obtain⟨k0,k1⟩:=zN w (Y a0 n c0) (Y a1 m c1) #[] 25 9;have E0:=ae (show RowStr (((w.alloc (Q #[Y a0 n c0] 25)).alloc (Q #[Y a1 m c1] 25)).alloc (Q #[] 9)) (w.heap.size+2) 0 0 (nmF []) from⟨by simp,fun i hi=>absurd hi (JP _)⟩);obtain⟨QW,hY⟩:∃ QW,QW=dd f n g m:=⟨_,rfl⟩
 rw[<-hY];have HY:=ae hY;clear hY;go_enter Tryz.func16,Tryz.ntmps16;go_wp2_with fail;generalize ((w.alloc (Q #[Y a0 n c0] 25)).alloc (Q #[Y a1 m c1] 25)).alloc (Q #[] 9)=W at A0 k0 k1 E0 ⊢;have hz:w.heap.size+2<W.heap.size:=E0.out.1;refine(oJ a0 n c0 f _ hn (n9.out.below A0.out ly) ph.out GP.out).mono ?_;rintro e w1 ⟨rfl,h⟩;have B1:=ae (A0.out.trans (h.mono A0.out.size));have E1:=ae (E0.out.below h ly);have q0:=(h.cell (p:=(T w.heap.size 0 Z)) (by show w.heap.size<_;omega)).trans k0;have q1:=(h.cell (p:=(T (w.heap.size+1) 0 Z)) (by show w.heap.size+1<_;omega)).trans k1;have Hg:w.heap.size+2<w1.heap.size:=lj hz h.size;clear h A0 E0 k0 k1 hz;cases hok0:aZ f n with
 | false =>
  obtain rfl:QW=[]:=by rw[HY.out,dd,eI (by rw[hok0];simp)]
  go_wp2;go_ret;exact⟨w.heap.size+2,0,0,0,rfl,rfl,E1.out,B1.out⟩
 | true =>
  have u:=ae hok0;clear hok0;go_wp2_with fail;refine(oJ a1 m c1 g _ hm (Hi.out.below B1.out ly) GY.out Hx.out).mono ?_;rintro e w2 ⟨rfl,h⟩;have B2:=ae (B1.out.trans (h.mono B1.out.size));have E2:=ae (E1.out.below h ly);have p0:=(h.cell (p:=(T w.heap.size 0 Z)) (by show w.heap.size<_;omega)).trans q0;have p1:=(h.cell (p:=(T (w.heap.size+1) 0 Z)) (by show w.heap.size+1<_;omega)).trans q1;have Hj:w.heap.size+2<w2.heap.size:=lj Hg h.size;clear h B1 E1 q0 q1 Hg;cases hok1:aZ g m with
  | false =>
   obtain rfl:QW=[]:=by rw[HY.out,dd,eI (by rw[hok1];simp)]
   go_wp2;go_ret;exact⟨w.heap.size+2,0,0,0,rfl,rfl,E2.out,B2.out⟩
  | true =>
   have F:=ae hok1;clear hok1;obtain⟨L,hL⟩:∃ L,L=cL f n:=⟨_,rfl⟩
   have Hr:Hid (QW=L.filter (eC f n g m)):=by show QW=_;rw[HY.out,dd,gA ⟨u.out,F.out⟩,hL]
   have Hp:Hid (L.Pairwise (· < ·)):=by show List.Pairwise _ _;rw[hL];exact qY f n
   have hLl:L.length<=n*201:=by rw[hL];exact mN (cZ u.out)
   have Hd:sW f n=L:=by rw[sW,gA u.out,hL]
   obtain⟨hn1,hn4,-⟩:=dX u.out;obtain⟨hm1,hm4,-⟩:=dX F.out;clear hL HY;go_wp2_with fail;refine(sA a0 n c0 f _ hn (n9.out.below B2.out ly) ph.out GP.out).mono ?_;rintro e w4 ⟨bn,on,ml,cl,rfl,ro,sm,h⟩;rw[Hd] at ro sm;have B4:=ae (B2.out.trans (h.mono B2.out.size));have E4:=ae (E2.out.below h ly);have y0:=(h.cell (p:=(T w.heap.size 0 Z)) (by show w.heap.size<_;omega)).trans p0;have y1:=(h.cell (p:=(T (w.heap.size+1) 0 Z)) (by show w.heap.size+1<_;omega)).trans p1;have hz4:w.heap.size+2<w4.heap.size:=lj Hj h.size;have Hn:=ae y0;have Ht:=ae y1;have Hk:=ae sm;have GW:=ae ro;have hml2:(ml:Int)<=1048576:=by omega
   clear h B2 E2 p0 p1 Hj y0 y1 ro sm Hd;obtain⟨b0,o0,rfl,G8⟩:=(n9.out).resolve_left (by omega);obtain⟨S,o1,rfl,GU⟩:=(Hi.out).resolve_left (by omega);have R0:=ae (G8.below B4.out ly);have R1:=ae (GU.below B4.out ly);clear G8 GU;go_wp2;go_loopw [5,7] (fun v i wr=>∃ (k bo oo ZA co:Nat),k<=ml/\i=I J k/\v=Y (N (T bo oo Z)) ZA co/\Hid (ZA=(fN (eC f n g m) L k).length)/\ZA<=co/\Hid (RowStr wr bo oo ZA (nmF (fN (eC f n g m) L k)))/\Hid (Below w4.heap.size w4 wr)) (fun _ i _=>ml - (intOf i).toNat);case atStart=>exact⟨0,w.heap.size+2,0,0,0,by omega,rfl,rfl,rfl,by omega,E4.out,eL _ _⟩
   case round =>
    obtain⟨k,bo,oo,ZA,co,hk,rfl,rfl,HM,Hv,HK,z⟩:=hrel;by_cases Hf:k<ml
    ·have qr:k<L.length:=by have:=GW.out;omega
     have hmo:ZA<=L.length:=by rw[HM.out];exact zj _ _ _
     have n8:=xv (q:=eC f n g m) qr;have D:=Be (q:=eC f n g m) Hp.out qr;have ZB:(nmF L k).toList=L[k]:=mL qr;rw[<-ZB] at n8 D;generalize fN (eC f n g m) L k=P at HM HK n8 D;have GQ:=ae n8;have GV:=ae D;clear n8 D ZB;have SK:Hid (∀ V,Below wr.heap.size wr V->V.cell? (T w.heap.size 0 Z)=N (Y (N (T b0 o0 Z)) n c0)/\V.cell? (T (w.heap.size+1) 0 Z)=N (Y (N (T S o1 Z)) m c1)/\V.cell? (T bn (on+k) Z)=N (U (nmF L k))):=fun V t=>by have K:=z.out.trans (t.mono z.out.size);exact⟨(K.cell (p:=(T w.heap.size 0 Z)) (by show w.heap.size<_;omega)).trans Hn.out,(K.cell (p:=(T (w.heap.size+1) 0 Z)) (by show w.heap.size+1<_;omega)).trans Ht.out,(Hk.out.below K ly).2 k Hf⟩
     have T0:Hid (∀ V,Below wr.heap.size wr V->Calls Tryz.prog 54 #[QV #[Y (N (T b0 o0 Z)) n c0],U (nmF L k)] V fun e x=>∃ (a:Option Addr) (c:Nat) (Q2:List TlR),e=QU (Y a Q2.length c)/\x.ownsRow V.heap.size 111 3 (Y a Q2.length c) Q2.length (Q2.flatMap tlV)/\(∀ r∈Q2,SlIns V r.2.1 r.1.actN r.1.act)/\Q2.map (fun r=>r.1)=aJ f (nmF L k).toList n/\Below V.heap.size V x):=fun V t=>nS b0 o0 n c0 f (nmF L k) V (by omega) (R0.out.below (z.out.trans (t.mono z.out.size)) ly) (fun p QY=>cZ u.out p QY);have T1:Hid (∀ V,Below wr.heap.size wr V->Calls Tryz.prog 54 #[QV #[Y (N (T S o1 Z)) m c1],U (nmF L k)] V fun e x=>∃ (a:Option Addr) (c:Nat) (Q2:List TlR),e=QU (Y a Q2.length c)/\x.ownsRow V.heap.size 111 3 (Y a Q2.length c) Q2.length (Q2.flatMap tlV)/\(∀ r∈Q2,SlIns V r.2.1 r.1.actN r.1.act)/\Q2.map (fun r=>r.1)=aJ g (nmF L k).toList m/\Below V.heap.size V x):=fun V t=>nS S o1 m c1 g (nmF L k) V (by omega) (R1.out.below (z.out.trans (t.mono z.out.size)) ly) (fun p QY=>cZ F.out p QY);go_wp2_with fail
     go_region_held3 (fun V=>V.cell? (T w.heap.size 0 Z)=N (Y (N (T b0 o0 Z)) n c0)/\V.cell? (T (w.heap.size+1) 0 Z)=N (Y (N (T S o1 Z)) m c1)/\V.cell? (T bn (on+k) Z)=N (U (nmF L k))) (first | exact SK.out _ br | exact SK.out _ br.drew | exact SK.out _ B.out)
      (first
      | (go_at_call 54;refine(T0.out _ (by first | exact br.drew | exact eL _ _)).mono ?_;rintro e O ⟨xa,xc,X,rfl,R,Q9,QZ,h⟩;have B:Hid (Below wr.heap.size wr O):=⟨h.os,h.tape,h.output,h.size,h.block⟩;have XR:Hid (WTRow O xa xc X):=⟨⟨_,R⟩,fun r hr=>(Q9 r hr).below h ly⟩;have XM:=ae QZ;clear R Q9 QZ h))
     have ld:Hid (∀ V,Below O.heap.size O V->V.cell? (T w.heap.size 0 Z)=N (Y (N (T b0 o0 Z)) n c0)/\V.cell? (T (w.heap.size+1) 0 Z)=N (Y (N (T S o1 Z)) m c1)/\V.cell? (T bn (on+k) Z)=N (U (nmF L k))):=fun V t=>SK.out V (B.out.trans (t.mono B.out.size));have GF:Hid (∀ V,Below O.heap.size O V->Calls Tryz.prog 54 #[QV #[Y (N (T S o1 Z)) m c1],U (nmF L k)] V fun e x=>∃ (a:Option Addr) (c:Nat) (Q2:List TlR),e=QU (Y a Q2.length c)/\x.ownsRow V.heap.size 111 3 (Y a Q2.length c) Q2.length (Q2.flatMap tlV)/\(∀ r∈Q2,SlIns V r.2.1 r.1.actN r.1.act)/\Q2.map (fun r=>r.1)=aJ g (nmF L k).toList m/\Below V.heap.size V x):=fun V t=>T1.out V (B.out.trans (t.mono B.out.size));clear T0 T1;go_simp;go_wp2_with fail
     go_region_held3 (fun V=>V.cell? (T w.heap.size 0 Z)=N (Y (N (T b0 o0 Z)) n c0)/\V.cell? (T (w.heap.size+1) 0 Z)=N (Y (N (T S o1 Z)) m c1)/\V.cell? (T bn (on+k) Z)=N (U (nmF L k))) (first | exact ld.out _ br | exact ld.out _ br.drew | exact ld.out _ D6.out)
      (first
      | (go_at_call 54;refine(GF.out _ (by first | exact br.drew | exact eL _ _)).mono ?_;rintro e w6 ⟨ya,yc,QX,rfl,R,Q9,QZ,h⟩;have D6:Hid (Below O.heap.size O w6):=⟨h.os,h.tape,h.output,h.size,h.block⟩;have ZR:Hid (WTRow w6 ya yc QX):=⟨⟨_,R⟩,fun r hr=>(Q9 r hr).below h ly⟩;have ZM:=ae QZ;clear R Q9 QZ h))
     have GO:=ae (XR.out.below D6.out ly);have B6:=ae ((z.out.trans (B.out.mono z.out.size)).trans (D6.out.mono (j4 z.out.size B.out.size)));have K6:=ae (HK.out.below (B.out.trans (D6.out.mono B.out.size)) ly);have Ha:Hid (eC f n g m (nmF L k).toList=gO (X.map fun r=>r.1) (QX.map fun r=>r.1)):=by show _=_;rw[eC,XM.out,ZM.out]
     have hXl:X.length<=80400:=by have h1:=JN List.length XM.out;have h2:=kq (f:=f) (nm:=(nmF L k).toList) (k:=n) (fun p QY=>cZ u.out p QY);rw[KO] at h1;omega
     have hZl:QX.length<=80400:=by have h1:=JN List.length ZM.out;have h2:=kq (f:=g) (nm:=(nmF L k).toList) (k:=m) (fun p QY=>cZ F.out p QY);rw[KO] at h1;omega
     have FX:Hid (∀ r∈X,r.1.actN<=1048576):=fun r hr=>pJ ph.out r.1 (by rw[<-XM.out];exact MC (f:=fun r:TlR=>r.1) hr);have FZ:Hid (∀ r∈QX,r.1.actN<=1048576):=fun r hr=>pJ GY.out r.1 (by rw[<-ZM.out];exact MC (f:=fun r:TlR=>r.1) hr);have GT:∀ b:Bool,(gi b P (nmF L k).toList).length<=80401:=by
      intro b;have h1:P.length<=80400:=by have:=HM.out;omega
      unfold gi;split
      ·simp;omega
      ·omega
     have GD:=ae GT;clear SK ld GF XR B D6 HK z XM ZM GT;obtain⟨nm,GC⟩:∃ nm,nm=nmF L k:=⟨_,rfl⟩
     rw[<-GC] at GQ GV Ha GD;have Hw:=ae GC;clear GC;go_simp;go_wp2;generalize wr=wr0;go_loopw [5,10] (fun v j wr=>∃ (s bq oq Q0 cq:Nat),s<=X.length/\j=I J s/\v=Y (N (T bq oq Z)) Q0 cq/\Hid (Q0=(gi (gO ((X.map fun r=>r.1).take s) (QX.map fun r=>r.1)) P nm.toList).length)/\Q0<=cq/\Hid (RowStr wr bq oq Q0 (nmF (gi (gO ((X.map fun r=>r.1).take s) (QX.map fun r=>r.1)) P nm.toList)))/\Hid (Below w6.heap.size w6 wr)) (fun _ j _=>X.length - (intOf j).toNat);case atStart=>exact⟨0,bo,oo,ZA,co,by omega,rfl,rfl,HM.out,Hv,K6.out,eL _ _⟩
     case round =>
      obtain⟨s,bq,oq,Q0,cq,hkk,rfl,rfl,HQ,GL,RQ,BQ⟩:=hrel;by_cases GI:s<X.length
      ·obtain⟨rx,aq⟩:∃ rx,X[s]?=N rx:=⟨X[s],gq GI⟩
       have GS:rx∈X:=IF aq;have Bk:s<(X.map fun r=>r.1).length:=by simpa using GI
       have ZB:(X.map fun r=>r.1)[s]=rx.1:=by
        have h1:(X.map fun r=>r.1)[s]?=N rx.1:=by rw[IN,aq];rfl
        exact ES ((gq Bk).symm.trans h1)
       have DQ:=zk (ys:=QX.map fun r=>r.1) Bk;rw[ZB] at DQ;have He:=ae DQ;clear DQ ZB Bk;generalize gO ((X.map fun r=>r.1).take s) (QX.map fun r=>r.1)=bA at HQ RQ He;have Hu:=ae aq;have Hl:=ae GS;clear aq GS;go_wp2;generalize wr=wr1 at RQ BQ ⊢;go_loopw [5,11] (fun v j wr=>∃ (o b3 o3 C c3:Nat),o<=QX.length/\j=I J o/\v=Y (N (T b3 o3 Z)) C c3/\Hid (C=(gi (bA || ((QX.map fun r=>r.1).take o).any fun y=>!cy rx.1 y) P nm.toList).length)/\C<=c3/\Hid (RowStr wr b3 o3 C (nmF (gi (bA || ((QX.map fun r=>r.1).take o).any fun y=>!cy rx.1 y) P nm.toList)))/\Hid (Below w6.heap.size w6 wr)) (fun _ j _=>QX.length - (intOf j).toNat);case atStart=>exact⟨0,bq,oq,Q0,cq,by omega,rfl,rfl,by show Q0=_;simpa using HQ.out,GL,by show RowStr _ _ _ _ _;simpa using RQ.out,BQ.out⟩
       case round =>
        clear HQ GL RQ BQ;obtain⟨o,b3,o3,C,c3,hjj,rfl,rfl,H3,GH,R3,M⟩:=hrel;by_cases GJ:o<QX.length
        ·obtain⟨l,Fd⟩:∃ l,QX[o]?=N l:=⟨QX[o],gq GJ⟩
         have Hc:l∈QX:=IF Fd;have th:o<(QX.map fun r=>r.1).length:=by simpa using GJ
         have GM:(QX.map fun r=>r.1)[o]=l.1:=by
          have h1:(QX.map fun r=>r.1)[o]?=N l.1:=by rw[IN,Fd];rfl
          exact ES ((gq th).symm.trans h1)
         have Fn:=any_take_succ (p:=fun y=>!cy rx.1 y) th;rw[GM] at Fn;have la:=ae Fn;clear Fn GM th;obtain⟨E,rfl,ur,x0,x1,x2⟩:=(GO.out.below M.out ly).at Hu.out;obtain⟨G,rfl,At,z0,z1,z2⟩:=(ZR.out.below M.out ly).at Fd;have SX:=ae ((GO.out.below M.out ly).sl rx Hl.out);have SZ:=ae ((ZR.out.below M.out ly).sl l Hc);have fx:=FX.out rx Hl.out;have fz:=FZ.out l Hc;have mv:Hid (∀ V,Below wr.heap.size wr V->V.cell? (T E (s*3) Z)=N (I J rx.1.kind)/\V.cell? (T E (s*3+1) Z)=N (U rx.1.text)/\V.cell? (T E (s*3+2) Z)=N (Y rx.2.1 rx.1.actN rx.2.2)/\V.cell? (T G (o*3) Z)=N (I J l.1.kind)/\V.cell? (T G (o*3+1) Z)=N (U l.1.text)/\V.cell? (T G (o*3+2) Z)=N (Y l.2.1 l.1.actN l.2.2)):=fun V t=>⟨(t.cell (p:=(T E _ Z)) ur).trans x0,(t.cell (p:=(T E _ Z)) ur).trans x1,(t.cell (p:=(T E _ Z)) ur).trans x2,(t.cell (p:=(T G _ Z)) At).trans z0,(t.cell (p:=(T G _ Z)) At).trans z1,(t.cell (p:=(T G _ Z)) At).trans z2⟩
         have AG:Hid (∀ V,Below wr.heap.size wr V->Calls Tryz.prog 55 #[QV #[I J rx.1.kind,U rx.1.text,Y rx.2.1 rx.1.actN rx.2.2],QV #[I J l.1.kind,U l.1.text,Y l.2.1 l.1.actN l.2.2]] V fun e x=>e=QU (.bool (cy rx.1 l.1))/\Below V.heap.size V x):=fun V t=>uT rx.1 l.1 rx.2.1 rx.2.2 l.2.1 l.2.2 V fx fz (SX.out.below t ly) (SZ.out.below t ly);go_wp2_with fail;clear x0 x1 x2 z0 z1 z2
         go_region_held3 (fun V=>V.cell? (T E (s*3) Z)=N (I J rx.1.kind)/\V.cell? (T E (s*3+1) Z)=N (U rx.1.text)/\V.cell? (T E (s*3+2) Z)=N (Y rx.2.1 rx.1.actN rx.2.2)/\V.cell? (T G (o*3) Z)=N (I J l.1.kind)/\V.cell? (T G (o*3+1) Z)=N (U l.1.text)/\V.cell? (T G (o*3+2) Z)=N (Y l.2.1 l.1.actN l.2.2)) (first | exact mv.out _ br | exact mv.out _ br.drew | exact mv.out _ D8.out)
          (first
          | (go_at_call 55;refine(AG.out _ (by first | exact br.drew | exact eL _ _)).mono ?_;rintro e w8 ⟨rfl,h⟩;have D8:Hid (Below wr.heap.size wr w8):=⟨h.os,h.tape,h.output,h.size,h.block⟩;clear h))
         have B8:=ae (M.out.trans (D8.out.mono M.out.size));have R8:=ae (R3.out.below D8.out ly);clear mv AG D8 R3 M SX SZ;generalize hA:cy rx.1 l.1=ag at la ⊢;clear hA;generalize ((QX.map fun r=>r.1).take o).any (fun y=>!cy rx.1 y)=bJ at H3 R8 la;cases ag with
         | true =>
          have A:Hid (((QX.map fun r=>r.1).take (o+1)).any (fun y=>!cy rx.1 y)=bJ):=by show _=_;rw[la.out];simp
          go_simp;go_wp2;exact⟨⟨o+1,b3,o3,C,c3,by omega,by go_num,rfl,by rw[A.out];exact H3.out,GH,by rw[A.out];exact R8.out,B8.out⟩,by simp[intOf];omega⟩
         | false =>
          have A:Hid (((QX.map fun r=>r.1).take (o+1)).any (fun y=>!cy rx.1 y)=true):=by show _=_;rw[la.out];simp
          have xn:w8.cell? (T bn (on+k) Z)=N (U nm):=by rw[Hw.out];exact(Hk.out.below (B6.out.trans (B8.out.mono B6.out.size)) ly).2 k Hf
          have Hq:=ae (ze (b:=bA || bJ) GV.out);have Ho:(C:Int)<=1048576:=by have:=H3.out;have:=GD.out (bA || bJ);omega
          go_simp;go_wp2_with (go_at_call 56;refine(mM b3 o3 C c3 _ nm _ H3.out Ho (by omega) R8.out).mono ?_;rintro e w9 ⟨b9,o9,m9,c9,rfl,Fk,hc9,Fm,h⟩;rw[Hq.out] at Fk Fm;have H9:=ae Fk;have R9:=ae Fm;have B9:=ae (B8.out.trans (h.mono B8.out.size));clear Fk Fm h);exact⟨⟨o+1,b9,o9,m9,c9,by omega,by go_num,rfl,by rw[A.out,QG];exact H9.out,by omega,by rw[A.out,QG];exact R9.out,B9.out⟩,by simp[intOf];omega⟩
        ·have ej:o=QX.length:=by omega
         have Hm:Hid (gO ((X.map fun r=>r.1).take (s+1)) (QX.map fun r=>r.1)=(bA || ((QX.map fun r=>r.1).take o).any fun y=>!cy rx.1 y)):=by show _=_;rw[He.out,ej,J6 (by simp)]
         go_wp2;exact⟨⟨s+1,b3,o3,C,c3,by omega,by go_num,rfl,by rw[Hm.out];exact H3.out,GH,by rw[Hm.out];exact R3.out,M.out⟩,by simp[intOf];omega⟩
      ·have ek:s=X.length:=by omega
       have GN:Hid (fN (eC f n g m) L (k+1)=gi (gO ((X.map fun r=>r.1).take s) (QX.map fun r=>r.1)) P nm.toList):=by show _=_;rw[GQ.out,Ha.out,ek];congr 1;rw[J6 (by simp)]
       go_wp2;exact⟨⟨k+1,bq,oq,Q0,cq,by omega,by go_num,rfl,by rw[GN.out];exact HQ.out,by omega,by rw[GN.out];exact RQ.out,B6.out.trans (BQ.out.mono B6.out.size)⟩,by simp[intOf];omega⟩
    ·have e:k=ml:=by omega
     have GK:Hid (QW=fN (eC f n g m) L k):=by show QW=_;rw[Hr.out,e,GW.out,zi]
     go_wp2;go_ret;exact⟨bo,oo,ZA,co,rfl,by rw[GK.out];exact HM.out,by rw[GK.out];exact HK.out,B4.out.trans (z.out.mono B4.out.size)⟩
end Go.Proofs.YtamacmnikdejeaaGreatDoor.Vp
