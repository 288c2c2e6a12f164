import Derived.Test.YthkpcehepgmdgaaGreatDoorSN
import Derived.Test.YthkpcehepgmdgaaGreatDoorSA
import Derived.Deep.RegionHeld3
set_option maxRecDepth 100000
set_option maxHeartbeats 8000000
set_option linter.unusedSimpArgs false
open Go renaming Addr.mk->Q,Value.slice->Z,Value.string->U,Value.int->J,Value.agg->ZH,Obj.cells->N,IntKind.i64->I,World->G,Value->ZD,Ending.returned->ZG,World.heap->h,World.alloc->ZV,World.cell?->ZW,World.frozen?->ZX,World.setCell->ZT
open Option renaming none->Y,some->T
open Bool renaming false->ZB
open Array renaming size->A
open List renaming length->ZU
namespace Go.Proofs.YthkpcehepgmdgaaGreatDoor.Vp
open RowKit Ca
variable {f:Nat->af}{L b pre:List Nat}{x q n:Nat}
structure SpBc (W:G)(ZZ:Nat)(v:ZD):Prop where
 size:ZZ+2<=A (h W)
 a:ZW W (Q ZZ 0 Y)=T v
 r:ZW W (Q (ZZ+1) 0 Y)=T (Z Y 0 0)/\ZX W (Q (ZZ+1) 0 Y)=ZB
theorem Ga (w:G)(v:ZD)(f:TypeId):SpBc (ZV (ZV w (N #[v] f)) (N #[Z Y 0 0] f)) (A (h w)) v:=by
 obtain⟨b,i⟩:∃b,ZV w (N #[v] f)=b:=⟨_,rfl⟩
 obtain⟨ZZ,g⟩:∃ZZ,ZV b (N #[Z Y 0 0] f)=ZZ:=⟨_,rfl⟩
 rw[i,g];have z1:A (h b)=A (h w)+1:=by rw[<-i];simp
 have z2:A (h ZZ)=A (h w)+2:=by rw[<-g];simp;omega
 have l:Below (A (h b)) b ZZ:=by rw[<-g];exact br.alloc ly _
 have n1:=jo w v f;have j:=jo b (Z Y 0 0) f;rw[i] at n1;rw[g,z1] at j;exact⟨by omega,(l.cell (p:=(Q (A (h w)) 0 Y)) (by show (A (h w))<_;omega)).trans n1.1,j⟩
theorem SpBc.aa{W f:G}{ZZ B:Nat}{v:ZD}(b:SpBc W ZZ v)(hb:Below B W f)(hB:ZZ+2<=B):SpBc f ZZ v :=
 ⟨AD b.size hb.size,(hb.cell (p:=(Q ZZ 0 Y)) (by show ZZ<B;omega)).trans b.a,(hb.cell (p:=(Q (ZZ+1) 0 Y)) (by show ZZ+1<B;omega)).trans b.r.1,(hb.frozen (p:=(Q (ZZ+1) 0 Y)) (by show ZZ+1<B;omega)).trans b.r.2⟩
def cZ (f:Nat->af)(L b:List Nat)(x k:Nat)(q:Nat):Nat->Link:=if q∈b then (λj=>dG L ((f q).m j)) else if q=x then fu L (f q).m k else (f q).m
theorem x9 (hq:q<n):cZ f L b n 0 q=cZ f L b x 0 q:=by
 unfold cZ;by_cases h1:q∈b;{rw[hU h1,hU h1]};{rw[eT h1,eT h1,eT (by omega)];by_cases h2:q=x;{rw[hU h2,qU]};{rw[eT h2]}}
theorem ya (hq:q<n):bq (cZ f L b x (f x).f q) (f q).f=bq (cZ f L (b++[x]) n 0 q) (f q).f:=by
 unfold cZ;by_cases h1:q∈b;{rw[hU h1,hU (KM _ h1)]};{rw[eT h1];by_cases h2:q=x;{subst h2;rw[hU rfl,hU (by simp),tq]};{rw[eT h2,eT (by simp[h1,h2]),eT (by omega)]}}
theorem qu{k:Nat}(g:x ∉ b):cZ f L b x k x=fu L (f x).m k:=by unfold cZ;rw[eT g,hU rfl]
theorem yc{k:Nat}(ZZ:((f x).m k).ask=ZB):cZ f L pre x (k+1) q=cZ f L pre x k q:=by
 unfold cZ;by_cases h2:q=x;{subst h2;rw[qV ZZ]};{rw[eT h2,eT h2]}
theorem zM{k:Nat}(g:x ∉ pre)(ZZ:((f x).m k).ask=true):cZ f L pre x (k+1)=λb=>if b=x then (λj=>if j=k then { cZ f L pre x k x j with L:=((L.idxOf ((f x).m k).L.toNat:Nat):Int) } else cZ f L pre x k x j) else cZ f L pre x k b:=by
 funext b;by_cases h2:b=x;{subst h2;rw[hU rfl,qu g,qu g,tr ZZ]};{rw[eT h2];unfold cZ;rw[eT h2,eT h2]}
theorem EK (ZZ:bJ (f q)):bJ (mv f L q):=ZZ
theorem BV (ZZ:eY (f q)):eY (mv f L q):=by
 obtain⟨h1,h2,g,b,i⟩:=ZZ;refine⟨h1,h2,g,b,λj l=>?_⟩;have:=i j l;show(dG L ((f q).m j)).e.size<=maxLen;unfold dG;split;{exact this};{exact this}
theorem tY{M:List Nat}{k:Nat}(b:k<ZU M):dF (M.map (mv f L)) k=mv f L M[k]:=by
 have h2:(M.map (mv f L))[k]?=T (mv f L M[k]):=by rw[HU,gq b];rfl
 rw[dF,CP,h2];rfl
theorem vA (a:Option Addr)(n cap:Nat)(f:Nat->af)(t:ByteArray)(w:G)(hn:(n:Int)<=1048576)(hf:SlDeed w a n f)(Hi:∀i,i<n->bJ (f i))(IA:∀i,i<n->eY (f i)):Calls Tryz.prog 7 #[ZH #[Z a n cap],U t] w λe w'=>∃a c,e=ZG (ZH #[Z a (cD f n t).length c])/\SlDeed w' a (cD f n t).length (dF (cD f n t))/\Below (A (h w)) w w':=by
 have HF:=ae hf;have HM:=ae Hi;have HZ:=ae IA;clear hf Hi IA;obtain⟨IW,IL,Je,IX,Jl⟩:=KQ fA;have A0:=ae (((q9 w).alloc ly (N #[Z a n cap] 25)).alloc (by simp) (N #[Z Y 0 0] 25));have X0:=ae (Ga w (Z a n cap) 25);obtain⟨C,hC⟩:∃C,C=cD f n t:=⟨_,rfl⟩
 rw[<-hC];have HC:=ae hC;clear hC;go_enter Tryz.func7,Tryz.ntmps7;go_wp2_with fail;generalize ZV (ZV w (N #[Z a n cap] 25)) (N #[Z Y 0 0] 25)=W0 at A0 X0 ⊢;refine(oh a n cap f t _ hn (HF.out.aa A0.out ly)).mono ?_;rintro e w1 ⟨rfl,K⟩;have ZQ:=ae (A0.out.trans (K.mono A0.out.size));have X1:=ae (X0.out.aa K X0.out.size);clear K X0 A0;have IY:=X1.out.a;go_wp2_with fail;refine(oA _ n cap f _ hn (HF.out.aa ZQ.out ly) HM.out HZ.out).mono ?_;rintro e w2 ⟨rfl,Ho⟩;have B2:=ae (ZQ.out.trans (Ho.mono ZQ.out.size));have X2:=ae (X1.out.aa Ho X1.out.size);clear Ho X1 ZQ IY;obtain⟨r0,z0⟩:=X2.out.r;cases hok:aK f n with
 |false =>
  have HE:Hid (C=[]):=by show C=[];rw[HC.out,cD,eT (by rw[hok];simp)]
  go_wp2;exact bp (v:=ZH #[Z Y 0 0]) (by simp[results,UX,go_sem,r0]) rfl ⟨Y,0,by rw[HE.out];rfl,.inl (by rw[HE.out];rfl),B2.out.setCell (by show (A (h w))<=A (h w)+1;omega) _⟩
 |true =>
  have la:=ae hok;have Ik:=dy hok;clear hok;obtain⟨b,off,rfl,Iy⟩:=HF.out.resolve_left (by omega);clear HF;have HF:=ae Iy;clear Iy;have Fk:=X2.out.a;rcases iL (λi=>!((f i).e.toList == t.toList)) n with hw|⟨p,hw,hp,-,-⟩
  ·have HE:Hid (C=[]):=by show C=[];rw[HC.out,cD,hU la.out,hU (by unfold bZ;exact hw)]
   rw[bZ,hw];go_wp2;exact bp (v:=ZH #[Z Y 0 0]) (by simp[results,UX,go_sem,r0]) rfl ⟨Y,0,by rw[HE.out];rfl,.inl (by rw[HE.out];rfl),B2.out.setCell (by show (A (h w))<=A (h w)+1;omega) _⟩
  ·have HE:Hid (C=if aK (dF (bs f p)) (bs f p).length=true then bs f p else []):=by
    have e:bZ f t n=(p:Int):=hw;show C=_;rw[HC.out,cD,hU la.out,e,eT (by omega),MV]
   rw[bZ,hw];have hA:=dI Ik.2.2;have DS:=ae hA;have hp1:(p:Int)+1<=400:=by omega
   have IF:(n:Int)<=400:=by omega
   clear hA Ik;go_wp2_with fail;refine(sA b off n cap p f _ DS.out hp IF (HF.out.aa B2.out ly) (λi hi=>eP la.out i hi)).mono ?_;rintro e O ⟨H,ov,rfl,hH,n9,It,Hr⟩;have B3:=ae (B2.out.trans (Hr.mono B2.out.size));have X3:=ae (X2.out.aa Hr X2.out.size);have O3:=ae It;have C3:=ae n9;clear Hr X2 B2 It n9 r0 z0 Fk;have IZ:=X3.out.a;go_wp2_with fail;refine(qX _ n cap f _ hn (.inr ⟨b,off,rfl,HF.out.aa B3.out ly⟩) HM.out).mono ?_;rintro e g ⟨a7,ZY,R,rfl,Hk,hR,-,Hv⟩;have Ig:ZU R=n:=by have:=CD List.length hR;simpa using this
   have HR:Hid (∀q,q<n->(rAt R q).1=f q):=by
    intro q E;have h1:R[q]?=T R[q]:=gq (by omega);rw[mi h1];have h2:(R.map (·.1))[q]?=T (f q):=by rw[hR,HU,List.getElem?_range E];rfl
    rw[HU,h1] at h2;exact GD h2
   obtain⟨L,hL⟩:∃L,L=bC f p:=⟨_,rfl⟩
   have I8:Hid (fP f [] L):=by show fP f [] L;rw[hL];exact mf DS.out hp
   have fd:Hid (∀q∈L,q<n):=by intro q E;rw[hL] at E;have:=mX DS.out hp q E;omega
   have hLl:ZU L<=p+1:=by rw[hL];exact(gS DS.out hp).1
   have DE:Hid (bs f p=L.map (mv f L)):=by show _=_;rw[hL];rfl
   rw[<-hL] at O3;clear hL;have Ja:A (h O)<=A (h g):=Hv.size;obtain⟨o,k7,Jb⟩:=bV Hk.y (by omega);cases Jb
   have II:=X3.out.size;have A6:=ae (((q9 g).alloc ly (N #[Z (T (Q o 0 Y)) (ZU R) ZY] 25)).alloc (by simp) (N #[Z Y 0 0] 25));have Iw:=jo g (Z (T (Q o 0 Y)) (ZU R) ZY) 25;have Iz:A (h (ZV g (N #[Z (T (Q o 0 Y)) (ZU R) ZY] 25)))=A (h g)+1:=by simp
   have Hz:=jo (ZV g (N #[Z (T (Q o 0 Y)) (ZU R) ZY] 25)) (Z Y 0 0) 25;rw[Iz] at Hz;have x7:ZW (ZV (ZV g (N #[Z (T (Q o 0 Y)) (ZU R) ZY] 25)) (N #[Z Y 0 0] 25)) (Q (A (h g)) 0 Y)=T (Z (T (Q o 0 Y)) (ZU R) ZY):=(((cM (A (h g)+1) (ZV g (N #[Z (T (Q o 0 Y)) (ZU R) ZY] 25))).alloc (by omega) (N #[Z Y 0 0] 25)).cell (p:=(Q (A (h g)) 0 Y)) (gM _)).trans Iw.1;have x8:=Hz;have Hu:A (h g)+2<=A (h (ZV (ZV g (N #[Z (T (Q o 0 Y)) (ZU R) ZY] 25)) (N #[Z Y 0 0] 25))):=by simp
   have GS:=ae ((Hk.allB).aa A6.out ly);have K6:=ae (Hv.trans (A6.out.mono Ja));have Ht:=ae x7;have Fn:=ae x8;clear Hk Hv Iw Hz Iz x7 x8 hR IZ;have ZJ:=ae Ig;clear Ig;go_wp2;generalize ZV (ZV g (N #[Z (T (Q o 0 Y)) (ZU R) ZY] 25)) (N #[Z Y 0 0] 25)=W6 at A6 GS K6 Ht Fn Hu ⊢;go_loopw [9] (λi wr=>∃(k:Nat) (vo:ZD),k<=ZU L/\i=J I k/\(A (h g))+2<=A (h wr)/\Hid (ZW wr (Q (A (h g)) 0 Y)=T (Z (T (Q o 0 Y)) (ZU R) ZY))/\Hid (ZW wr (Q (A (h g)+1) 0 Y)=T vo/\ZX wr (Q (A (h g)+1) 0 Y)=ZB)/\Hid (AllB wr (A (h O)+3) (A (h g)) (Z (T (Q o 0 Y)) (ZU R) ZY) R (cZ f L (L.take k) n 0))/\Hid (wr.ownsRow (A (h g)+2) 44 6 vo k (((L.take k).map (rAt R)).flatMap ddV))/\Hid (Below (A (h O)) O wr)) (λi _=>ZU L - (intOf i).toNat);case atStart =>
    refine⟨0,_,by omega,rfl,Hu,Ht.out,Fn.out,GS.out.congr λq r ZN=>?_,CL _ _ _ _,K6.out⟩;have E:q<n:=by have:=(j2.1 ZN).1;have:=ZJ.out;omega
    rw[HR.out q E,cZ,List.take_zero,eT (by simp),eT (by omega)]
   case round =>
    clear A6 GS K6 Ht Fn Hu;obtain⟨i,vo,hi,rfl,IU,C7,C8,M,ZO,ZP⟩:=hrel;have n9:ZW wr (Q H 2 Y)=T ov:=(ZP.out.cell (p:=(Q H 2 Y)) hH).trans C3.out;obtain⟨go_,co,rfl⟩:=du (own_below O3.out ZP.out ly);by_cases DQ:i<ZU L
    ·obtain⟨x,hx⟩:∃x,x=L[i]:=⟨_,rfl⟩
     have Jm:x∈L:=by rw[hx];exact gz DQ
     have H6:=fd.out x Jm;have Im:Hid (L=L.take i++x::L.drop (i+1)):=by show _=_;rw[hx,<-List.drop_eq_getElem_cons DQ,NF]
     have H7:Hid (L.take (i+1)=L.take i++[x]):=by show _=_;rw[hx,List.take_succ_eq_append_getElem DQ]
     have Ib:(L.take i).length=i:=by rw[LU];omega
     have Fm:Hid (x ∉ L.take i/\∀j,j<(f x).f->((f x).m j).ask=true->((f x).m j).L.toNat∈L.take i):=by have:=kQ (p:=L.take i) (x:=x) (q:=L.drop (i+1)) I8.out Im.out;rw[J2] at this;exact this
     have ZN:R[x]?=T (rAt R x):=by
      have I9:x<ZU R:=(by have:=ZJ.out;omega)
      have h1:R[x]?=T R[x]:=gq I9;rw[h1,mi h1]
     have Hp:=ae ZN;have Hl:=HR.out x H6;obtain⟨gv,kv,Ji⟩:=bV (own_below O3.out ZP.out ly) (by omega);cases Ji
     have Iu:ZW wr (Q gv i Y)=T (J I (x:Int)):=(a8 (own_below O3.out ZP.out ly) (j:=i) (u:=J I (x:Int)) (by rw[HU,gq DQ,hx];rfl)).1;have Ir:=C7.out;have ZK:∀j,j<6->∀u,(ddV (rAt R x))[j]?=T u->ZW wr (Q o (x*6+j) Y)=T u:=λj hj u hu=>(gy M.out.y ZN j hj hu).1;obtain⟨P,c4,e4⟩:=du (M.out.u x _ ZN);obtain⟨ZM,c5,e5⟩:=du (M.out.am x _ ZN);have q0:=ZK 0 (by omega) _ rfl;have q1:=ZK 1 (by omega) _ rfl;have q2:=ZK 2 (by omega) _ rfl;have q3:=ZK 3 (by omega) _ rfl;have q4:=ZK 4 (by omega) _ rfl;have q5:=ZK 5 (by omega) _ rfl;rw[show x*6+0=x*6 by omega] at q0;rw[e4] at q4;rw[e5] at q5;rw[Hl] at q0 q1 q2 q3 q4 q5;have IQ:=ae e4;have Fd:=ae e5;have Hm:=ae Hl;have HX:=ae hx;have Hj:=ae Ib;have hi0:(0:Int)<=(i:Int):=by omega
     have hiL:(i:Int)<ZU L:=by omega
     have hx0:(0:Int)<=(x:Int):=by omega
     have hxR:(x:Int)<ZU R:=by have:=ZJ.out;omega
     clear ZK e4 e5 Hl hx Ib ZN;have W:=(cu M.out.y).2;have Ij:=(cu (own_below O3.out ZP.out ly)).2;have Is:H<A (h wr):=lj hH ZP.out.size;have X:Hid (∀V,Below (A (h wr)) wr V->ZW V (Q (A (h g)) 0 Y)=T (Z (T (Q o 0 Y)) (ZU R) ZY)/\ZW V (Q H 2 Y)=T (Z (T (Q gv 0 Y)) (ZU L) co)/\ZW V (Q gv i Y)=T (J I (x:Int))/\ZW V (Q o (x*6) Y)=T (U (f x).e)/\ZW V (Q o (x*6+1) Y)=T (J I (f x).H)/\ZW V (Q o (x*6+2) Y)=T (J I (f x).E)/\ZW V (Q o (x*6+3) Y)=T (U (f x).B)/\ZW V (Q o (x*6+4) Y)=T (Z P (f x).l c4)/\ZW V (Q o (x*6+5) Y)=T (Z ZM (f x).f c5)):=λV ZS=>⟨(ZS.cell (p:=(Q (A (h g)) 0 Y)) (by show (A (h g))<_;omega)).trans Ir,(ZS.cell (p:=(Q H 2 Y)) Is).trans n9,(ZS.cell (p:=(Q gv i Y)) Ij).trans Iu,(ZS.cell (p:=(Q o _ Y)) W).trans q0,(ZS.cell (p:=(Q o _ Y)) W).trans q1,(ZS.cell (p:=(Q o _ Y)) W).trans q2,(ZS.cell (p:=(Q o _ Y)) W).trans q3,(ZS.cell (p:=(Q o _ Y)) W).trans q4,(ZS.cell (p:=(Q o _ Y)) W).trans q5⟩
     go_wp2_with fail;clear Ir Iu q0 q1 q2 q3 q4 q5 n9;go_region_held3 (λV=>ZW V (Q (A (h g)) 0 Y)=T (Z (T (Q o 0 Y)) (ZU R) ZY)/\ZW V (Q H 2 Y)=T (Z (T (Q gv 0 Y)) (ZU L) co)/\ZW V (Q gv i Y)=T (J I (x:Int))/\ZW V (Q o (x*6) Y)=T (U (f x).e)/\ZW V (Q o (x*6+1) Y)=T (J I (f x).H)/\ZW V (Q o (x*6+2) Y)=T (J I (f x).E)/\ZW V (Q o (x*6+3) Y)=T (U (f x).B)/\ZW V (Q o (x*6+4) Y)=T (Z P (f x).l c4)/\ZW V (Q o (x*6+5) Y)=T (Z ZM (f x).f c5)) (first|exact X.out _ br|exact X.out _ br.drew|exact X.out _ (br.drew.alloc ly _)|exact X.out _ (br.alloc ly _).drew|exact X.out _ ((((((((q9 wr).drew.alloc ly _).setCell ly _).setCell ly _).setCell ly _).setCell ly _).setCell ly _).setCell ly _)) (fail);have A2:=ae ((q9 wr).alloc ly (N #[U (f x).e,J I (f x).H,J I (f x).E,U (f x).B,Z P (f x).l c4,Z ZM (f x).f c5] 44)).drew;have S2:=ae ((fT wr (U (f x).e) (J I (f x).H) (J I (f x).E) (U (f x).B) (Z P (f x).l c4) (Z ZM (f x).f c5) 44).ab (w':=(ZV wr (N #[U (f x).e,J I (f x).H,J I (f x).E,U (f x).B,Z P (f x).l c4,Z ZM (f x).f c5] 44)).drew) ly rfl);generalize (ZV wr (N #[U (f x).e,J I (f x).H,J I (f x).E,U (f x).B,Z P (f x).l c4,Z ZM (f x).f c5] 44)).drew=W2 at A2 S2 ⊢;have IB:Hid (AllB W2 (A (h O)+3) (A (h g)) (Z (T (Q o 0 Y)) (ZU R) ZY) R (cZ f L (L.take i) x 0)):=(M.out.aa A2.out (by omega)).congr λq r ZN=>by rw[x9 (by have:=(j2.1 ZN).1;have:=ZJ.out;omega)]
     have D7:=ae ((A2.out.cell (p:=(Q (A (h g)) 0 Y)) (by show (A (h g))<_;omega)).trans C7.out);have D8:Hid (ZW W2 (Q (A (h g)+1) 0 Y)=T vo/\ZX W2 (Q (A (h g)+1) 0 Y)=ZB):=⟨(A2.out.cell (p:=(Q (A (h g)+1) 0 Y)) (by show (A (h g))+1<_;omega)).trans C8.out.1,(A2.out.frozen (p:=(Q (A (h g)+1) 0 Y)) (by show (A (h g))+1<_;omega)).trans C8.out.2⟩
     have Id:=ae (own_below ZO.out A2.out ly);have Ip:=ae (ZP.out.trans (A2.out.mono ZP.out.size));have hD:A (h wr)<A (h W2):=S2.out.lt;clear M C7 C8 ZO ZP X W Ij Is;obtain⟨D,Il⟩:∃D,D=A (h wr):=⟨_,rfl⟩
     rw[<-Il] at S2 hD IU ⊢;clear Il A2;generalize Ic:(f x).f=ln at S2 ⊢;have aq:=ae Ic;clear Ic;have hln2:ln<=200:=by rw[<-aq.out];exact eP la.out x H6
     go_wp2;go_loopw [11] (λkk wk=>∃(j:Nat),j<=ln/\kk=J I j/\D<A (h wk)/\Hid (DBox wk D (U (f x).e) (J I (f x).H) (J I (f x).E) (U (f x).B) (Z P (f x).l c4) (Z ZM ln c5))/\Hid (ZW wk (Q (A (h g)) 0 Y)=T (Z (T (Q o 0 Y)) (ZU R) ZY))/\Hid (ZW wk (Q (A (h g)+1) 0 Y)=T vo/\ZX wk (Q (A (h g)+1) 0 Y)=ZB)/\Hid (AllB wk (A (h O)+3) (A (h g)) (Z (T (Q o 0 Y)) (ZU R) ZY) R (cZ f L (L.take i) x j))/\Hid (wk.ownsRow (A (h g)+2) 44 6 vo i (((L.take i).map (rAt R)).flatMap ddV))/\Hid (Below (A (h O)) O wk)) (λkk _=>ln - (intOf kk).toNat);case atStart=>exact⟨0,by omega,rfl,hD,S2.out,D7.out,D8.out,IB.out,Id.out,Ip.out⟩
     case round =>
      clear hD S2 D7 D8 IB Id Ip;obtain⟨j,hj,rfl,hD,S3,C7,C8,M,ZO,ZP⟩:=hrel;have Ii:=S3.out.c5.1;by_cases ld:j<ln
      ·have hlk:=M.out.am x _ Hp.out;rw[Fd.out,Hm.out,aq.out,qu Fm.out.1] at hlk;obtain⟨s,cl,Jn⟩:=bV hlk (by omega);cases Jn
       have ZL:∀m,m<4->∀u,(dt ((f x).m j))[m]?=T u->ZW wr (Q s (j*4+m) Y)=T u/\ZX wr (Q s (j*4+m) Y)=ZB:=λm hm u hu=>a8 hlk (by rw[fe _ ld m hm,show fu L (f x).m j j=(f x).m j by simp[fu]];exact hu);have f0:=(ZL 0 (by omega) _ rfl).1;have f1:=(ZL 1 (by omega) _ rfl).1;obtain⟨f3,z3⟩:=ZL 3 (by omega) _ rfl;rw[show j*4+0=j*4 by omega] at f0;have hgll:=cu hlk;have hgt:=M.out.topL x _ Hp.out s (by rw[Fd.out];rfl);have n7:=λq=>yc (f:=f) (L:=L) (pre:=L.take i) (x:=x) (k:=j) (q:=q);have n8:=zM (f:=f) (L:=L) (pre:=L.take i) (x:=x) (k:=j) Fm.out.1;have Hw:=Fm.out.2 j (by rw[aq.out];exact ld);have Hn:=eA la.out x H6 j (by rw[aq.out];exact ld);generalize (f x).m j=y at f0 f1 f3 n7 n8 Hw Hn;have IE:=ae n7;have I6:=ae n8;have Jk:=ae Hw;have IM:=ae Hn;clear ZL n7 n8 Hw Hn hlk;cases hask:y.ask with
       |false =>have I7:=ae (λq=>IE.out q hask);rw[hask] at f1;go_wp2;exact⟨⟨j+1,by omega,by go_num,hD,S3.out,C7.out,C8.out,M.out.congr λq r _=>by rw[I7.out q],ZO.out,ZP.out⟩,by simp[intOf];omega⟩
       |true =>
        have Hy:=ae (I6.out hask);obtain⟨ha0,-,Fk⟩:=IM.out hask;have ur:=Jk.out hask;obtain⟨q,E⟩:∃q,q=y.L.toNat:=⟨_,rfl⟩
        rw[<-E] at Fk ur Hy;rw[hask] at f1;obtain⟨B,z,qr⟩:=du ZO.out;subst qr;have bt:=C8.out.1;have Jg:(i:Int)<=400:=by omega
        have Hq:Hid (∀q∈L.take i,q<n):=λq E=>fd.out q (NI E);have VW:Hid (bZ (dF ((L.take i).map (mv f L))) y.e i=((L.idxOf q:Nat):Int)):=by
         have h1:=zp la.out Hq.out ur (dF ((L.take i).map (mv f L))) (λk S=>by
          have h2:((L.take i).map (mv f L))[k]?=T (mv f L (L.take i)[k]):=by rw[HU,gq S];rfl
          rw[dF,CP,h2]
          rfl) Fk
         rw[Hj.out] at h1;show _=_;have h4:L.idxOf q=(L.take i).idxOf q:=(CD (λl=>List.idxOf q l) Im.out).trans (by show List.idxOf q (L.take i++x::L.drop (i+1))=_;rw[OJ,hU ur]);rw[bZ,h1,h4]
        have SL:Hid (SlDeed wr B i (dF ((L.take i).map (mv f L)))):=by
         have h1:=M.out.rows (pre:=L.take i) (base2:=A (h g)+2) (a:=B) (c:=z) (by rw[Hj.out];exact ZO.out) (λq E=>by have:=Hq.out q E;have:=ZJ.out;omega) (dF ((L.take i).map (mv f L))) (λk S=>by
          have h2:((L.take i).map (mv f L))[k]?=T (mv f L (L.take i)[k]):=by rw[HU,gq S];rfl
          have hm:(L.take i)[k]∈L.take i:=gz S;have h3:dF ((L.take i).map (mv f L)) k=mv f L (L.take i)[k]:=by rw[dF,CP,h2];rfl
          rw[h3,HR.out _ (Hq.out _ hm),cZ,hU hm]
          exact⟨rfl,rfl,rfl,rfl,rfl,rfl,rfl,rfl⟩)
         rw[Hj.out] at h1;exact h1
        generalize ((L.idxOf q:Nat):Int)=ix at VW Hy;have Hx:A (h g)+1<A (h wr):=by omega
        have th:s<A (h wr):=by omega
        have CT:Hid (∀V,Below (A (h wr)) wr V->Calls Tryz.prog 21 #[ZH #[Z B i z],U y.e] V λe w'=>e=ZG (J I ix)/\Below (A (h V)) V w'):=λV ZS=>by have ZZ:=oh B i z (dF ((L.take i).map (mv f L))) y.e V (by omega) (SL.out.aa ZS ly);rw[VW.out] at ZZ;exact ZZ
        have X:Hid (∀V,Below (A (h wr)) wr V->ZW V (Q D 5 Y)=T (Z (T (Q s 0 Y)) ln c5)/\ZW V (Q (A (h g)+1) 0 Y)=T (Z B i z)/\ZW V (Q s (j*4) Y)=T (U y.e)):=λV ZS=>⟨(ZS.cell (p:=(Q D 5 Y)) hD).trans Ii,(ZS.cell (p:=(Q (A (h g)+1) 0 Y)) Hx).trans bt,(ZS.cell (p:=(Q s (j*4) Y)) th).trans f0⟩
        have Ia:Hid (∀V v,Below (A (h wr)) wr V->ZW (ZT V (Q s (j*4+3) Y) v) (Q D 5 Y)=T (Z (T (Q s 0 Y)) ln c5)/\ZW (ZT V (Q s (j*4+3) Y) v) (Q (A (h g)+1) 0 Y)=T (Z B i z)/\ZW (ZT V (Q s (j*4+3) Y) v) (Q s (j*4) Y)=T (U y.e)):=λV v ZS=>by obtain⟨k1,k2,k3⟩:=X.out V ZS;exact⟨(cell_far _ _ _ _ (by show s≠D;omega)).trans k1,(cell_far _ _ _ _ (by show s≠A (h g)+1;omega)).trans k2,(sq _ _ _ _ (by simp)).trans k3⟩
        have hj0:(0:Int)<=(j:Int):=by omega
        have hjl:(j:Int)<ln:=by omega
        go_wp2_with fail;clear Ii bt f0 f1;go_region_held3 (λV=>ZW V (Q D 5 Y)=T (Z (T (Q s 0 Y)) ln c5)/\ZW V (Q (A (h g)+1) 0 Y)=T (Z B i z)/\ZW V (Q s (j*4) Y)=T (U y.e)) (first|exact X.out _ br|exact X.out _ br.drew|exact X.out _ ZQ.out|exact Ia.out _ _ ZQ.out)
         (first
         |(go_at_call 21;refine(CT.out _ (by first|exact br.drew|exact cM _ _)).mono ?_;rintro e w1 ⟨rfl,K⟩;have ZQ:Hid (Below (A (h wr)) wr w1):=⟨K.os,K.tape,K.output,K.size,K.block⟩;have g3:=(ZQ.out.cell (p:=(Q s (j*4+3) Y)) th).trans f3;have y3:=(ZQ.out.frozen (p:=(Q s (j*4+3) Y)) th).trans z3;clear K))
        have ID:s≠D:=by omega
        have S5:=ae ((S3.out.aa ZQ.out hD).far (p:=(Q s (j*4+3) Y)) ID (J I ix));have F7:=ae ((cell_far w1 (Q s (j*4+3) Y) (Q (A (h g)) 0 Y) (J I ix) (by show s≠A (h g);omega)).trans ((ZQ.out.cell (p:=(Q (A (h g)) 0 Y)) (by show (A (h g))<_;omega)).trans C7.out));have F8:Hid (ZW (ZT w1 (Q s (j*4+3) Y) (J I ix)) (Q (A (h g)+1) 0 Y)=T (Z B i z)/\ZX (ZT w1 (Q s (j*4+3) Y) (J I ix)) (Q (A (h g)+1) 0 Y)=ZB):=⟨(Ia.out w1 _ ZQ.out).2.1,by rw[NU];exact(ZQ.out.frozen (p:=(Q (A (h g)+1) 0 Y)) Hx).trans C8.out.2⟩
        have I5:=ae (cH (w':=ZT w1 (Q s (j*4+3) Y) (J I ix)) (own_below ZO.out ZQ.out ly) (λk S _=>qh _ _ _ _ (by have:=(ZO.out.lt k S).1;show k≠s;omega)));have IG:Hid (AllB (ZT w1 (Q s (j*4+3) Y) (J I ix)) (A (h O)+3) (A (h g)) (Z (T (Q o 0 Y)) (ZU R) ZY) R (cZ f L (L.take i) x (j+1))):=by show AllB _ _ _ _ _ _;rw[Hy.out];exact(M.out.aa ZQ.out (by omega)).setLink Hp.out Fd.out (by rw[Hm.out,aq.out];exact ld) ix
        have Jc:=ae ((ZP.out.trans (ZQ.out.mono ZP.out.size)).setCell (p:=(Q s (j*4+3) Y)) (by show (A (h O))<=s;omega) (J I ix));have Jf:D<A (h (ZT w1 (Q s (j*4+3) Y) (J I ix))):=S5.out.lt;go_simp;go_wp2;exact⟨⟨j+1,by omega,by go_num,Jf,S5.out,F7.out,F8.out,IG.out,I5.out,Jc.out⟩,by simp[intOf];omega⟩
      ·have ej:j=ln:=by omega
       subst ej;obtain⟨B,z,qr⟩:=du ZO.out;subst qr;obtain⟨p0,_⟩:=S3.out.c0;obtain⟨p1,_⟩:=S3.out.c1;obtain⟨p2,_⟩:=S3.out.c2;obtain⟨p3,_⟩:=S3.out.c3;obtain⟨p4,_⟩:=S3.out.c4;have bt:=C8.out.1;have IJ:Hid (ddV (rAt R x)=[U (f x).e,J I (f x).H,J I (f x).E,U (f x).B,Z P (f x).l c4,Z ZM j c5]):=by show _=_;rw[ddV,IQ.out,Fd.out,Hm.out,aq.out]
       have Hx:A (h g)+1<A (h wr):=by omega
       have A7:=ae ((q9 wr).alloc ly (N #[U (f x).e,J I (f x).H,J I (f x).E,U (f x).B,Z P (f x).l c4,Z ZM j c5] 44));have R7:=ae (ZO.out.alloc (N #[U (f x).e,J I (f x).H,J I (f x).E,U (f x).B,Z P (f x).l c4,Z ZM j c5] 44));have Iv:A (h g)+2<=A (h (ZV wr (N #[U (f x).e,J I (f x).H,J I (f x).E,U (f x).B,Z P (f x).l c4,Z ZM j c5] 44))):=by simp;omega
       go_wp2_with (at_builtin;refine DD _ rfl (.tmp 76) (.tmp 78) 23 rfl (A (h g)+2) 44 IW (ZH #[U ⟨#[]⟩,J I 0,J I 0,U ⟨#[]⟩,Z Y 0 0,Z Y 0 0]) 6 96 LX IL Je IX Jl rfl (by decide) (Z B i z) i (((L.take i).map (rAt R)).flatMap ddV) (by simp[Act.eval]) R7.out (Q (A (h wr)) 0 Y) 1 1 [U (f x).e,J I (f x).H,J I (f x).E,U (f x).B,Z P (f x).l c4,Z ZM j c5] (by simp[Act.eval]) rfl (zx wr _ _ _ _ _ _ _) (by simp[Value.oneCell']) (by unfold maxLen;omega) (by omega) Iv ?_;intro v' w8 sm Bk IC;obtain⟨gs,cs,rfl⟩:=bV sm (by omega);have E8:=ae (bg (cM (A (h g)+2) _) Bk Iv (λj e=>(R7.out.lt j e).1));have G8:=ae ((A7.out.mono (by omega)).trans E8.out);have O8:=ae sm;have k0:=(G8.out.cell (p:=(Q (A (h g)+1) 0 Y)) (by show (A (h g))+1<A (h g)+2;omega)).trans bt;have k1:=(G8.out.frozen (p:=(Q (A (h g)+1) 0 Y)) (by show (A (h g))+1<A (h g)+2;omega)).trans C8.out.2;clear sm Bk IC);have hz8:=G8.out.size;have O9:Hid ((ZT w8 (Q (A (h g)+1) 0 Y) (Z (T (Q gs 0 Y)) (i+1) cs)).ownsRow (A (h g)+2) 44 6 (Z (T (Q gs 0 Y)) (i+1) cs) (i+1) (((L.take (i+1)).map (rAt R)).flatMap ddV)):=by show World.ownsRow _ _ _ _ _ _ _;rw[H7.out,AI,IH];have:=aC (R:=A (h g)+1) (j:=0) O8.out (by omega) (Z (T (Q gs 0 Y)) (i+1) cs);simpa[IJ.out] using this
       have Jh:Hid (AllB (ZT w8 (Q (A (h g)+1) 0 Y) (Z (T (Q gs 0 Y)) (i+1) cs)) (A (h O)+3) (A (h g)) (Z (T (Q o 0 Y)) (ZU R) ZY) R (cZ f L (L.take (i+1)) n 0)):=by
        refine((M.out.aa G8.out (by omega)).set (p:=(Q (A (h g)+1) 0 Y)) (by show (A (h g))<=A (h g)+1;omega) _).congr λq r ZN=>?_;have E:q<n:=by have:=(j2.1 ZN).1;have:=ZJ.out;omega
        have Jd:r.1=f q:=by rw[<-HR.out q E,mi ZN]
        rw[Jd,H7.out,<-aq.out];exact ya E
       refine⟨⟨i+1,Z (T (Q gs 0 Y)) (i+1) cs,by omega,by go_num,by simp;omega,(cell_far _ _ _ _ (by show (A (h g))+1≠A (h g);omega)).trans ((G8.out.cell (p:=(Q (A (h g)) 0 Y)) (by show (A (h g))<A (h g)+2;omega)).trans C7.out),⟨AT _ _ _ (by rw[k0];rfl),by rw[NU];exact k1⟩,Jh.out,O9.out,(ZP.out.trans (G8.out.mono (by omega))).setCell (by show (A (h O))<=A (h g)+1;omega) _⟩,by simp[intOf];omega⟩
    ·have ei:i=ZU L:=by omega
     have Ih:Hid (L.take i=L):=by show _=_;rw[ei,List.take_length]
     obtain⟨B,z,qr⟩:=du ZO.out;subst qr;have bt:=C8.out.1;have Ie:Hid (∀V,AllB V (A (h O)+3) (A (h g)) (Z (T (Q o 0 Y)) (ZU R) ZY) R (cZ f L (L.take i) n 0)->V.ownsRow (A (h g)+2) 44 6 (Z B i z) i (((L.take i).map (rAt R)).flatMap ddV)->SlDeed V B i (dF (bs f p))):=by
      intro V IK Io
      have h1:=IK.rows (pre:=L) (base2:=A (h g)+2) (a:=B) (c:=z) (by rw[Ih.out,ei] at Io;exact Io) (λq E=>by have:=fd.out q E;have:=ZJ.out;omega) (dF (L.map (mv f L))) (λk S=>by
       have hm:L[k]∈L:=gz S;rw[tY S,HR.out _ (fd.out _ hm),cZ,Ih.out,hU hm]
       exact⟨rfl,rfl,rfl,rfl,rfl,rfl,rfl,rfl⟩)
      rw[<-DE.out,<-ei] at h1;exact h1
     have SL:=ae (Ie.out wr M.out ZO.out);have Iq:(bs f p).length=i:=by rw[DE.out,LR];omega
     have At:=ae Iq;have B9:=ae (B3.out.trans (ZP.out.mono B3.out.size));have X9:=ae (X3.out.aa ZP.out II);have Jg:(i:Int)<=400:=by omega
     clear Iq;have H9:=ae ei;clear ei;go_wp2_with fail
     refine(oA B i z (dF (bs f p)) _ (by omega) SL.out (λk S=>by
      have ph:k<ZU L:=by have:=H9.out;omega
      rw[DE.out,tY ph]
      exact EK (HM.out _ (fd.out _ (gz ph)))) (λk S=>by
      have ph:k<ZU L:=by have:=H9.out;omega
      rw[DE.out,tY ph]
      exact BV (HZ.out _ (fd.out _ (gz ph))))).mono ?_
     rintro e w9 ⟨rfl,ex⟩;have BA:=ae (B9.out.trans (ex.mono B9.out.size));have XA:=ae (X9.out.aa ex X9.out.size);have IP:=ae (M.out.aa ex (by omega));have Jj:=ae (own_below ZO.out ex ly);have k8:=(ex.cell (p:=(Q (A (h g)+1) 0 Y)) (by show (A (h g))+1<_;omega)).trans bt;clear ex bt;obtain⟨r0,z0⟩:=XA.out.r;cases hok2:aK (dF (bs f p)) i with
     |false =>
      have ro:Hid (C=[]):=by show C=[];rw[HE.out,At.out,eT (by rw[hok2];simp)]
      go_wp2;exact bp (v:=ZH #[Z Y 0 0]) (by simp[results,UX,go_sem,r0]) rfl ⟨Y,0,by rw[ro.out];rfl,.inl (by rw[ro.out];rfl),BA.out.setCell (by show (A (h w))<=A (h w)+1;omega) _⟩
     |true =>
      have ro:Hid (C=bs f p):=by show C=_;rw[HE.out,At.out,hU hok2]
      go_wp2;refine bp (v:=ZH #[Z B i z]) (by simp[results,UX,go_sem,r0]) rfl ⟨B,z,by rw[ro.out,At.out],?_,BA.out.setCell (by show (A (h w))<=A (h w)+1;omega) _⟩;rw[ro.out,At.out];exact Ie.out _ (IP.out.keep λk S _=>qh _ _ _ _ (by show k≠A (h w)+1;omega)) (aC Jj.out (by omega) _)
