import Derived.Test.YtamacmnikdejeaaGreatDoorWC
import Derived.Test.YtamacmnikdejeaaGreatDoorWF
import Derived.Test.YtamacmnikdejeaaGreatDoorXF
import Derived.Test.YtamacmnikdejeaaGreatDoorYU
set_option maxRecDepth 100000
set_option maxHeartbeats 16000000
set_option linter.unusedSimpArgs false
open Go.Addr renaming mk->T
open Go.Value renaming slice->Y,string->U,int->I,agg->QV
open Option renaming none->Z,some->N
open Go.Obj renaming cells->Q
open Go.IntKind renaming i64->J
open Go renaming World->H
open Bool renaming false->QQ
open Go.Ending renaming returned->QU
namespace Go.Proofs.YtamacmnikdejeaaGreatDoor.Vp
open RowKit Ca
def WyL (L:List (List UInt8))(w:H)(e:Ending)(b:H):Prop:=∃ (v:Option Addr) (d:Nat),e=QU (Y v L.length d)/\SlStr b v L.length (nmF L)/\Below w.heap.size w b
structure AcD (n c:Nat)(f:Nat->aj):Prop where
 hn:n<=50000
 cap:n<=c
 fit:∀ i,i<n->FitD (f i)
theorem HAc.acd {b n c:Nat}{w:H}{a:Option Addr}{f:Nat->aj}(h:HAc b w a n c f):AcD n c f:=⟨h.hn,h.cap,h.fit⟩
section
variable {n c m k:Nat}{a b:Option Addr}{f g:Nat->aj}
theorem Gg (w:H)(h1:AcD n c f)(h2:AcD m k g)(l:SlDeed w a n f)(hb:SlDeed w b m g)(o:Tab w):Calls Tryz.prog 15 #[QV #[Y a n c],QV #[Y b m k]] w fun e j=>WyL (dd f n g m) w e j:=by have:=h1.hn;have:=h2.hn;have:=h1.cap;have:=h2.cap;refine(vK a n c f b m k g w (by omega) (by omega) l hb (by omega) (by omega) (fun i hi=>(h1.fit i hi).fits) (fun i hi=>(h2.fit i hi).fits) (fun i hi=>(h1.fit i hi).sized) (fun i hi=>(h2.fit i hi).sized) o).mono ?_;rintro e j ⟨v,rfl,h,p⟩;obtain⟨q,d,rfl⟩:=aF h;exact⟨q,d,rfl,Fp h,p⟩
theorem Gh (w:H)(h1:AcD n c f)(h2:AcD m k g)(o:SlDeed w a n f)(hb:SlDeed w b m g):Calls Tryz.prog 16 #[QV #[Y a n c],QV #[Y b m k]] w fun e h=>WyL (dd f n g m) w e h:=by have:=h1.hn;have:=h2.hn;refine(vm a n c f b m k g w (by omega) (by omega) o hb (fun i hi=>(h1.fit i hi).fits) (fun i hi=>(h2.fit i hi).fits) (fun i hi=>(h1.fit i hi).sized) (fun i hi=>(h2.fit i hi).sized)).mono ?_;rintro e h ⟨l,off,j,d,rfl,rfl,p,q⟩;exact⟨_,d,rfl,.inr ⟨l,off,rfl,p⟩,q⟩
end
theorem uN (w:H)(c d:Array Value)(s t:TypeId):((w.alloc (Q c s)).alloc (Q d t)).heap[w.heap.size]?=N (Q c s (0,0)):=by rw[MI _ _ (by simp)];exact cM w _
theorem Fy (a:Option Addr)(n cap:Nat)(b:Option Addr)(m c:Nat)(w:H)(h:1048576<(n:Int)∨1048576<(m:Int)):Calls Tryz.prog 4 #[Y a n cap,Y b m c] w fun e f=>e=QU (.bool true)/\Below w.heap.size w f:=by
 by_cases h1:1048576<(n:Int)
 case' neg=>have h2:1048576<(m:Int):=h.resolve_left h1
 all_goals
  go_enter Tryz.func4,Tryz.ntmps4;go_wp2;go_ret;exact⟨rfl,eL _ _⟩
theorem DZ (a:Option Addr)(n cap:Nat)(b:Option Addr)(m bt:Nat)(w:H)(hc:n<=cap)(GC:m<=bt)(hS:ByteSl w a n)(Fm:ByteSl w b m)(hT:Tab w):Calls Tryz.prog 4 #[Y a n cap,Y b m bt] w fun e w'=>e=QU (.bool true)/\Below w.heap.size w w':=by
 by_cases n8:1048576<(n:Int)∨1048576<(m:Int)
 ·exact Fy a n cap b m bt w n8
 have h1:¬ 1048576<(n:Int):=fun h=>n8 (.inl h);have h2:¬ 1048576<(m:Int):=fun h=>n8 (.inr h);have LY:=ae (fun V (l:Below w.heap.size w V)=>hT.below l hT.1);have DW:=ae (vQ a n cap w (by omega) hc hS);have DM:=ae (fun V (l:Below w.heap.size w V)=>uo a n cap V (by omega) hc (hS.below l ly));have DS:=ae (fun V (l:Below w.heap.size w V)=>nr b m bt V (by omega) GC (Fm.below l ly));have DT:=ae (fun V (l:Below w.heap.size w V)=>uq b m bt V (by omega) GC (Fm.below l ly));clear hT hS Fm hc GC n8;go_enter Tryz.func4,Tryz.ntmps4;go_wp2_with fail;refine DW.out.mono ?_;rintro e w1 ⟨xa,xn,xc,xf,ya,yn,yc,yf,rfl,hX,hY,Fk⟩;clear DW;have A1:=((q9 w1).alloc ly (Q #[Y xa xn xc] 25)).alloc (by simp) (Q #[Y ya yn yc] 25);have K1:=ae (Fk.trans (A1.mono Fk.size));have X1:Hid (AB ((w1.alloc (Q #[Y xa xn xc] 25)).alloc (Q #[Y ya yn yc] 25)) w1.heap.size (Y xa xn xc)):=uN w1 _ _ _ _;have Y1:Hid (AB ((w1.alloc (Q #[Y xa xn xc] 25)).alloc (Q #[Y ya yn yc] 25)) (w1.heap.size+1) (Y ya yn yc)):=LH w1 _ _;have HX:=ae (hX.agr (bh A1 ly));have HY:=ae (hY.agr (bh A1 ly));have CX:=ae hX.acd;have CY:=ae hY.acd;clear A1 hX hY Fk;go_upto_region 4 with fail;generalize (w1.alloc (Q #[Y xa xn xc] 25)).alloc (Q #[Y ya yn yc] 25)=W1 at K1 X1 Y1 HX HY ⊢;generalize w1.heap.size+1=yb at Y1 ⊢;generalize w1.heap.size=xb at X1 ⊢;have SC:Hid (∀ V,Below W1.heap.size W1 V->V.cell? (T xb 0 Z)=N (Y xa xn xc)/\V.cell? (T yb 0 Z)=N (Y ya yn yc)):=fun V l=>⟨(X1.below l ly).c0,(Y1.below l ly).c0⟩
 have SL:=ae (fun V (l:Below W1.heap.size W1 V)=>(⟨HX.sl V (bh l ly),HY.sl V (bh l ly),LY.out V (K1.trans (l.mono K1.size))⟩:SlDeed V xa xn xf/\SlDeed V ya yn yf/\Tab V));clear X1 Y1 HX HY;have fd:=sY xf xn yf yn;go_wp2_with fail;refine wp_region_held_drew (S:=fun V=>V.cell? (T xb 0 Z)=N (Y xa xn xc)/\V.cell? (T yb 0 Z)=N (Y ya yn yc)) (by as_aux_lemma=>kernel_rfl) (SC.out _ br.drew) (fun hS=>?_);have A:=ae hS;clear hS;have BA:Hid (Below W1.heap.size W1 W1.drew):=br.drew;generalize DQ:dd xf xn yf yn=LL at fd
 iterate 2
  refine aV 0 (v:=?_) rfl rfl (by as_aux_lemma=>kernel_rfl) (fun _ _ _ h=>h) rfl ?_ A.out ?_;rotate_left
  ·(intro wz At;obtain⟨s0,s1⟩:=At;go_simp)
   (try with_reducible rfl)
  (try simp only[Act.put,nzL])
 iterate 2
  refine aV 3 (v:=?_) rfl rfl (by as_aux_lemma=>kernel_rfl) (fun _ _ _ h=>h) rfl ?_ A.out ?_;rotate_left
  ·(intro wz At;obtain⟨s0,s1⟩:=At;go_simp)
   (try with_reducible rfl)
  (try simp only[Act.put,nzL])
 refine aD (i:=2) rfl (by as_aux_lemma=>kernel_rfl) (fun K QW=>?_);go_simp;go_at_call 15;refine(Gg _ CX CY (SL.out _ BA).1 (SL.out _ BA).2.1 (SL.out _ BA).2.2).mono ?_;rw[DQ];rintro e w2 ⟨v2,d2,rfl,GF,c⟩;have z:=ae (BA.trans (c.mono BA.size));clear A c;have A:=ae (SC.out _ z.out);refine QW _ _ A.out ?_;clear QW K
 (try simp only[Act.put,nzL])
 have O2:=ae GF;clear GF;refine aD (i:=5) rfl (by as_aux_lemma=>kernel_rfl) (fun K QW=>?_);go_simp;go_at_call 16;refine(Gh _ CX CY (SL.out _ z).1 (SL.out _ z).2.1).mono ?_;rw[DQ];rintro e w3 ⟨v3,d3,rfl,GK,c⟩;have O3:=ae (O2.below c ly);have BC:=ae (z.trans (c.mono z.size));clear A c;have A:=ae (SC.out _ BC.out);refine QW _ _ A.out ?_;clear QW K;have Q3:=ae GK;clear GK;refine aD (i:=6) rfl (by as_aux_lemma=>kernel_rfl) (fun K QW=>?_);go_simp;go_at_call 14;refine(qd v2 v3 LL.length d2 d3 (nmF LL) _ fd O3 Q3).mono ?_;rintro e w4 ⟨rfl,c⟩;have BD:=ae (BC.trans (c.mono BC.size));clear A c;have A:=ae (SC.out _ BD.out);refine QW _ _ A.out ?_;clear QW K
 (try simp only[Act.put,nzL])
 refine aD (i:=7) rfl (by as_aux_lemma=>kernel_rfl) (fun K QW=>?_);go_simp;refine QW _ _ A.out ?_;clear QW K
 (try simp only[Act.put,nzL])
 refine wpAnyH_done (by as_aux_lemma=>kernel_rfl) ?_ _;have K4:=ae (K1.trans (BD.mono K1.size));clear SC SL A O2 O3 Q3 BA z BC BD K1 CX CY DQ fd;go_wp2_with fail;refine(DM.out _ K4).mono ?_;rintro e w5 ⟨a0,n0,c0,f0,a1,n1,c1,f1,t,rfl,hH,c⟩;have hn0:=hH.hn0;have hn1:=hH.hn1;have sm:=ae (show ∀ i,i<n1->bP (f1 i) from fun i hi=>by have:=(hH.fit i hi).1;unfold bP;omega);have qr:=ae (show ∀ i,i<n1->∀ j,j<(f1 i).actN->((f1 i).act j).s.size<=maxLen from fun i hi j hj=>by have:=(hH.fit i hi).2 j hj;unfold maxLen;omega);have A5:=(q9 w5).alloc ly (Q #[Y a0 n0 c0,Y a1 n1 c1] 29);have K5:=ae (K4.trans ((c.trans (A5.mono c.size)).mono K4.size));have H5:=ae (hH.agr (bh A5 ly));have X5:Hid (SBx (w5.alloc (Q #[Y a0 n0 c0,Y a1 n1 c1] 29)) w5.heap.size (Y a0 n0 c0) (Y a1 n1 c1)):=cM w5 _;clear A5 hH c K4 DM;go_upto_region 7 with fail;generalize w5.alloc (Q #[Y a0 n0 c0,Y a1 n1 c1] 29)=W5 at K5 H5 X5 ⊢;generalize w5.heap.size=sb at X5 ⊢;have SP:Hid (∀ V,Below W5.heap.size W5 V->V.cell? (T sb 0 Z)=N (Y a0 n0 c0)/\V.cell? (T sb 1 Z)=N (Y a1 n1 c1)/\SlSource V a0 n0 f0/\SlTarget V a1 n1 f1/\Below w.heap.size w V):=fun V l=>⟨(X5.below l ly).c0,(X5.below l ly).c1,(H5.sl V (bh l ly)).1,(H5.sl V (bh l ly)).2,K5.trans (l.mono K5.size)⟩
 clear H5 X5;go_wp2_with fail;refine(DT.out _ K5).mono ?_;rintro e w6 ⟨p0,q0,r0,p1,q1,r1,o,g,pm,pc,fp,rfl,hI,hpm,GI,c⟩;have A6:=((q9 w6).alloc ly (Q #[Y p0 q0 r0,Y p1 q1 r1] 29)).alloc (by simp) (Q #[Y (N (T g 0 Z)) pm pc] 43);have B6:=ae (c.trans (A6.mono c.size));have GH:=ae (show ∀ j,j<pm->(fp j).s.size<=maxLen from fun j hj=>by have:=GI j hj;unfold maxLen;omega);have P6:Hid (PP ((w6.alloc (Q #[Y p0 q0 r0,Y p1 q1 r1] 29)).alloc (Q #[Y (N (T g 0 Z)) pm pc] 43)) (w6.heap.size+1) g pm pc fp):=⟨LH w6 _ _,hI.below A6 ly⟩
 clear A6 c DT hI GI K5;go_upto_region 8 with fail;generalize (w6.alloc (Q #[Y p0 q0 r0,Y p1 q1 r1] 29)).alloc (Q #[Y (N (T g 0 Z)) pm pc] 43)=W6 at B6 P6 ⊢;generalize w6.heap.size+1=pb at P6 ⊢;go_wp2_with fail;refine(DS.out _ (SP.out _ B6).2.2.2.2).mono ?_;rintro e w7 ⟨p0,q0,r0,-,p1,q1,r1,-,-,tx,rfl,-,c⟩;have A7:=(q9 w7).alloc ly (Q #[Y p0 q0 r0,Y p1 q1 r1] 29);have x:=c.trans (A7.mono c.size);have B7:=ae (B6.trans (x.mono B6.size));have P7:=ae (P6.below x ly);clear A7 x c DS B6 P6;go_upto_region 9 with fail;generalize w7.alloc (Q #[Y p0 q0 r0,Y p1 q1 r1] 29)=W7 at B7 P7 ⊢;have CM:=ae (fun V (l:Below W5.heap.size W5 V)=>jQ (S:=⟨n0,f0,n1,f1⟩) (a0:=a0) (a1:=a1) (c0:=c0) (c1:=c1) V t (SP.out V l).2.2.1 (SP.out V l).2.2.2.1 (by show n0<=_;omega) (by show n1<=_;omega) sm qr);have WF:=ae (fun r q=>Fv (S:=⟨n0,f0,n1,f1⟩) (S2:=spL r q) (k:=o) (t:=t));obtain⟨O,L,-⟩:=SP.out _ B7;go_wp2_with fail;refine(CM.out _ B7).mono ?_;rintro e w8 ⟨d,dc,R,rv,rfl,hD,F,⟨ra,rk,rfl,-⟩,c⟩;have u:=(oZ hD F).1;have hN:R.length=(aG ⟨n0,f0,n1,f1⟩ t).1.length:=by have:=JN List.length F;simpa[aM] using this
 clear hD F CM O L;rw[hN] at u ⊢;generalize (aG ⟨n0,f0,n1,f1⟩ t).2=rs;generalize (aG ⟨n0,f0,n1,f1⟩ t).1=M at WF u ⊢;generalize dF (aM ⟨n0,f0,n1,f1⟩ M)=f at WF u;have Fd:Hid (∀ r q,Besd ⟨n0,f0,n1,f1⟩ (spL r q) o->M.length≠0->(aG (spL r q) t).1≠[]->_):=fun r q h1 h2 h3=>WF.out r q h1 (fun e=>h2 (by rw[e];rfl)) h3;generalize M.length=QZ at Fd u ⊢;clear hN WF;have A8:=((q9 w8).alloc ly (Q #[Y d QZ dc] 25)).alloc (by simp) (Q #[I J rs.code,U rs.text,Y ra rs.chain.length rk] 37);have x:=c.trans (A8.mono c.size);have B8:=ae (B7.trans (x.mono B7.size));have P8:=ae (P7.below x ly);have X8:Hid (AB ((w8.alloc (Q #[Y d QZ dc] 25)).alloc (Q #[I J rs.code,U rs.text,Y ra rs.chain.length rk] 37)) w8.heap.size (Y d QZ dc)):=uN w8 _ _ _ _;have HA:=ae (u.agr (bh A8 ly));have CA:=ae u.acd;clear A8 x c u B7 P7;go_upto_region 10 with fail;generalize (w8.alloc (Q #[Y d QZ dc] 25)).alloc (Q #[I J rs.code,U rs.text,Y ra rs.chain.length rk] 37)=W8 at B8 P8 X8 HA ⊢;generalize w8.heap.size=ab at X8 ⊢;have SA:Hid (∀ V,Below W8.heap.size W8 V->V.cell? (T ab 0 Z)=N (Y d QZ dc)/\SlDeed V d QZ f/\Below W5.heap.size W5 V):=fun V l=>⟨(X8.below l ly).c0,HA.sl V (bh l ly),B8.trans (l.mono B8.size)⟩
 clear X8 HA;have PZ:=ae (uH (n0:=n0) (f0:=f0) (n1:=n1) (f1:=f1) (t:=o) (tx:=tx));have RZ:=ae (uI (n0:=n0) (f0:=f0) (n1:=n1) (f1:=f1) (t:=o) (m:=pm) (fp:=fp));have PM:=ae (fun h=>AM (n0:=n0) (f0:=f0) (n1:=n1) (f1:=f1) (t:=o) (tx:=tx) h);have RM:=ae (fun h=>AN (n0:=n0) (f0:=f0) (n1:=n1) (f1:=f1) (t:=o) (m:=pm) (fp:=fp) h);have CS:=ae (mX a0 n0 c0 f0 a1 n1 c1 f1 o tx);have CT:=ae (mZ a0 n0 c0 f0 a1 n1 c1 f1 o (N (T g 0 Z)) pm pc fp);generalize jE n0 f0 n1 f1 o tx=C at PM CS;generalize fU n0 f0 n1 f1 o tx=r at PM PZ CS;generalize gS n0 f0 n1 f1 o tx=q at PM PZ CS;generalize gT n0 f0 n1 f1 o (valid fp pm)=D at RM CT;generalize fB n0 f0 n1 f1 o pm fp=MS at RM RZ CT;generalize fQ n0 f0 n1 f1 o pm fp=MT at RM RZ CT;obtain⟨O,L,x2,x3,-⟩:=SP.out _ B8;go_wp2_with fail;refine(CS.out _ (by omega) (by omega) x2 x3 sm qr).mono ?_;rintro e w9 ⟨v0,v1,RR,rfl,hs,ht,F,c⟩;obtain⟨QY,G,rfl⟩:=aF hs;obtain⟨P,QX,rfl⟩:=aF ht.own;have hH:=lc hs ht F PZ;have hl:RR.length=q.length:=by rw[<-F];simp
 rw[hl] at hH ⊢;clear O L x2 x3 hs ht F hl CS PZ;have A9:=(q9 w9).alloc ly (Q #[Y QY r.length G,Y P q.length QX] 29);have x:=c.trans (A9.mono c.size);have Q0:=ae x;have P9:=ae (P8.below x ly);have X9:Hid (SBx (w9.alloc (Q #[Y QY r.length G,Y P q.length QX] 29)) w9.heap.size (Y QY r.length G) (Y P q.length QX)):=cM w9 _;have W:=ae (hH.1.agr (bh A9 ly));have GD:W8.heap.size<=w9.heap.size:=c.size;clear A9 x c hH P8;go_upto_region 11 with fail;generalize w9.alloc (Q #[Y QY r.length G,Y P q.length QX] 29)=W9 at Q0 P9 X9 W ⊢;generalize w9.heap.size=E at X9 GD ⊢;have DE:(m:Int).tmod 2=((m % 2:Nat):Int):=by rw[LB (by omega)];omega
 obtain⟨i,hi⟩:∃ i,m % 2=i:=⟨_,rfl⟩
 rw[hi] at DE;have GL:i=0∨i=1:=by omega
 clear hi;go_upto_if 76 with fail;go_cut [18] (fun s wx=>∃ (C:Int) (r:List Source) (q:List Target) (QY P:Option Addr) (G QX:Nat),s=I J C/\Hid (SBx wx E (Y QY r.length G) (Y P q.length QX))/\Hid (HSp W8.heap.size wx QY r.length (aR r) P q.length (aT q))/\Hid (C=0->Besd ⟨n0,f0,n1,f1⟩ (spL r q) o)/\Hid (Below W8.heap.size W8 wx));case first =>
  rcases GL with rfl | rfl
  ·obtain⟨O,L,x2,x3,-⟩:=SP.out _ (SA.out _ Q0).2.2
   have x4:=P9.p.c0;go_wp2_with fail;refine(CT.out _ (by omega) (by omega) (by omega) x2 x3 (.inr ⟨g,0,rfl,P9.i⟩) sm qr GH).mono ?_;rintro e Q9 ⟨v0,v1,RR,rfl,hs,ht,F,c⟩;obtain⟨h0,k0,rfl⟩:=aF hs;obtain⟨n9,k1,rfl⟩:=aF ht.own;have hH:=lc hs ht F RZ;have hl:RR.length=MT.length:=by rw[<-F];simp
   rw[hl] at hH ⊢;have kx:=X9.below c ly;have aq:Q9.heap[E]?=N (Q #[Y QY r.length G,Y P q.length QX] 29 (0,0)):=kx;have y0:Q9.cell? (T E 0 Z)=N (Y QY r.length G):=by simp[World.cell?,aq]
   have y1:Q9.cell? (T E 1 Z)=N (Y P q.length QX):=by simp[World.cell?,aq]
   have z0:Q9.frozen? (T E 0 Z)=QQ:=by simp[World.frozen?,aq]
   have z1:Q9.frozen? (T E 1 Z)=QQ:=by simp[World.frozen?,aq]
   have lb:=ai aq;have l9:=ai X9.out;have X:Hid (SBx ((Q9.setCell (T E 0 Z) (Y h0 MS.length k0)).setCell (T E 1 Z) (Y n9 MT.length k1)) E (Y h0 MS.length k0) (Y n9 MT.length k1)):=by show _=_;simp[World.setCell,JR,aq]
   have ZB:Hid (HSp W8.heap.size ((Q9.setCell (T E 0 Z) (Y h0 MS.length k0)).setCell (T E 1 Z) (Y n9 MT.length k1)) h0 MS.length (aR MS) n9 MT.length (aT MT)):=(hH.1.agr ⟨by simp,fun j h1 _=>(qh _ _ _ _ (by show j≠E;omega)).trans (qh _ _ _ _ (by show j≠E;omega))⟩).mono Q0.size;have B:=ae (((Q0.trans (c.mono Q0.size)).setCell (p:=(T E 0 Z)) GD (Y h0 MS.length k0)).setCell (p:=(T E 1 Z)) GD (Y n9 MT.length k1));clear O L x2 x3 x4 hs ht F hl c hH kx aq;go_wp2;go_meet;exact⟨_,_,_,_,_,_,_,rfl,X,ZB,RM,B⟩
  ·go_wp2
   go_meet;exact⟨_,_,_,_,_,_,_,rfl,X9,W,PM,Q0⟩
 case rest =>
 clear X9 W PM Q0 P9 RM RZ CT GH DE GL QY P G QX;obtain⟨C,r,q,QY,P,G,QX,rfl,X9,W,BE,Q0⟩:=hcut;generalize wc=W9 at X9 W Q0 ⊢;have hl0:=W.hn0;have hl1:=W.hn1;have CM:=ae (jQ (S:=spL r q) (a0:=QY) (a1:=P) (c0:=G) (c1:=QX) W9 t (W.sl W9 (Agr.refl _ _)).1 (W.sl W9 (Agr.refl _ _)).2 (by show r.length<=_;omega) (by show q.length<=_;omega) (fun i hi=>by have:=(W.fit i hi).1;unfold bP;exact j4 this (by omega)) (fun i hi j hj=>by have:=(W.fit i hi).2 j hj;unfold maxLen;exact j4 this (by omega)));have th:=ae (fun h1 h2 h3=>Fd.out r q (BE.out h1) h2 h3);have O:=X9.c0;have L:=X9.c1;clear X9 W Fd BE;go_wp2_with fail;refine CM.out.mono ?_;rintro e wa ⟨d',ld,R',rv,rfl,hD,F,⟨Fn,Bk,rfl,-⟩,c⟩;have u:=(oZ hD F).1;have hN:R'.length=(aG (spL r q) t).1.length:=by have:=JN List.length F;simpa[aM] using this
 clear hD F CM O L;rw[hN] at u ⊢;generalize (aG (spL r q) t).2=ZA;generalize (aG (spL r q) t).1=M' at th u ⊢;generalize dF (aM (spL r q) M')=f' at th u;have la:Hid (C=0->QZ≠0->M'.length≠0->_):=fun h1 h2 h3=>th.out h1 h2 (fun e=>h3 (by rw[e];rfl));generalize M'.length=Q2 at la u ⊢;clear hN th;have AA:=((q9 wa).alloc ly (Q #[Y d' Q2 ld] 25)).alloc (by simp) (Q #[I J ZA.code,U ZA.text,Y Fn ZA.chain.length Bk] 37);have x:=c.trans (AA.mono c.size);have BA:=ae (Q0.trans (x.mono Q0.size));have XA:Hid (AB ((wa.alloc (Q #[Y d' Q2 ld] 25)).alloc (Q #[I J ZA.code,U ZA.text,Y Fn ZA.chain.length Bk] 37)) wa.heap.size (Y d' Q2 ld)):=uN wa _ _ _ _;have HA:=ae (u.agr (bh AA ly));have CB:=ae u.acd;clear AA x c u Q0;go_upto_region 14 with fail;generalize (wa.alloc (Q #[Y d' Q2 ld] 25)).alloc (Q #[I J ZA.code,U ZA.text,Y Fn ZA.chain.length Bk] 37)=WA at BA XA HA ⊢;generalize wa.heap.size=bb at XA ⊢;have y:Hid (∀ V,Below WA.heap.size WA V->V.cell? (T ab 0 Z)=N (Y d QZ dc)/\V.cell? (T bb 0 Z)=N (Y d' Q2 ld)/\SlDeed V d QZ f/\SlDeed V d' Q2 f'/\Below w.heap.size w V/\Tab V):=fun V l=>by have hW:=BA.trans (l.mono BA.size);have hZ:=(SP.out V (SA.out V hW).2.2).2.2.2.2;exact⟨(SA.out V hW).1,(XA.below l ly).c0,(SA.out V hW).2.1,HA.sl V (bh l ly),hZ,LY.out V hZ⟩
 clear XA HA SA SP BA LY sm qr;have fd:=sY f QZ f' Q2;have CI:=ae (fun V (l:Below WA.heap.size WA V)=>Gg (a:=d) (b:=d') V CA CB (y.out V l).2.2.1 (y.out V l).2.2.2.1 (y.out V l).2.2.2.2.2);have CQ:=ae (fun V (l:Below WA.heap.size WA V)=>Gh (a:=d) (b:=d') V CA CB (y.out V l).2.2.1 (y.out V l).2.2.2.1);have CW:=ae (fun V (l:Below WA.heap.size WA V)=>uM d QZ dc f d' Q2 ld f' V (j4 CA.hn (by omega)) (y.out V l).2.2.1 (y.out V l).2.2.2.1 (fun i hi=>(CA.fit i hi).fits));generalize dd f QZ f' Q2=LL at fd la CI CQ;have hNN:=CA.hn;have hNM:=CB.hn;clear CA CB;obtain⟨O,L,-⟩:=y.out WA br;go_wp2_with fail;refine(CI.out WA br).mono ?_;rintro e Q9 ⟨vw,vd,rfl,GE,c⟩;have z:=ae c;have OV:=ae GE;clear c GE CI O L;obtain⟨O,L,-,-,KB,-⟩:=y.out Q9 z;have KBB:=ae KB;clear KB;by_cases mv:C=0/\QZ≠0/\Q2≠0;case neg =>
  have GN:((C == 0)=QQ/\¬ C=0)∨(C=0/\QZ=0)∨(C=0/\((QZ:Int) == 0)=QQ/\Q2=0):=by
   by_cases h1:C=0
   ·by_cases h2:QZ=0
    ·exact .inr (.inl ⟨h1,h2⟩)
    ·exact .inr (.inr ⟨h1,by simp;omega,KI fun h3=>mv ⟨h1,h2,h3⟩⟩)
   ·exact .inl ⟨by simpa using h1,h1⟩
  clear mv la;rcases GN with ⟨hC,hC1⟩ | ⟨rfl,rfl⟩ | ⟨rfl,hN,rfl⟩
  all_goals
   go_wp2_with fail;refine(CQ.out Q9 z).mono ?_;rintro e wc ⟨vq,vk,rfl,GJ,c⟩;have BC:=ae (z.trans (c.mono z.size));have OW:=ae (OV.below c ly);have OQ:=ae GJ;clear c GJ O L OV z;go_wp2_with fail;refine(qd vw vq LL.length vd vk (nmF LL) _ fd OW OQ).mono ?_;rintro e wd ⟨rfl,c⟩;have KE:=ae (y.out wd (BC.trans (c.mono BC.size))).2.2.2.2.1;clear c;go_wp2;go_ret;exact⟨rfl,KE⟩
 obtain⟨rfl,GM,GO⟩:=mv;have hq1:((QZ:Int) == 0)=QQ:=by simp;omega
 have hq2:((Q2:Int) == 0)=QQ:=by simp;omega
 rcases la.out rfl GM GO with ⟨rfl,ur⟩ | ⟨rfl,ro⟩
 ·have A:=ae ur
  clear ur la CQ OV;go_wp2_with fail;refine(CW.out Q9 z).mono ?_;rintro e wc ⟨bq,rfl,hb,c⟩;obtain rfl:bq=true:=hb.2 A.out;have KE:=ae (y.out wc (z.trans (c.mono z.size))).2.2.2.2.1;clear hb c O L;go_wp2;go_ret;exact⟨rfl,KE⟩
 ·have HD:=ae ro
  clear ro la CQ;obtain⟨kb,ko,rfl,ph⟩:∃ kb ko,vw=N (T kb ko Z)/\RowStr Q9 kb ko 1 (nmF [o.toList]):=by
   rcases OV.out with h | h
   ·cases h
   ·exact h
  have G:Q9.cell? (T kb ko Z)=N (U (nmF [o.toList] 0)):=ph.2 0 (by omega);have hkl:=ph.1;have ek:nmF [o.toList] 0=o:=by simp[nmF,D0]
  rw[ek] at G;clear ph ek OV;go_wp2_with fail;refine(CW.out Q9 z).mono ?_;rintro e wc ⟨bq,rfl,hb,c⟩;obtain rfl:bq=QQ:=by
   cases bq with
   | false=>rfl
   | true=>exact absurd (hb.1 rfl) HD.out
  have KE:=ae (y.out wc (z.trans (c.mono z.size))).2.2.2.2.1;clear hb c O L G;go_wp2;go_ret;exact⟨rfl,KE⟩
end Go.Proofs.YtamacmnikdejeaaGreatDoor.Vp
