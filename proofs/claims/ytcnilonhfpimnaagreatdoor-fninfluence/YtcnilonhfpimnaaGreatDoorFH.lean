import Derived.Test.YtcnilonhfpimnaaGreatDoorGY
import Derived.RangeFuncNested
import Derived.RangeFuncBound
import Derived.RangeFuncCalls
import Derived.RangeFuncLeaves
import Derived.Shelf.Abstract
import Derived.Shelf.RegionOpen
import Derived.OwnWalkIn
import Derived.TacticsInMore
import Derived.LoopNIn
import Derived.LoopIn
import Derived.Sort.QuietIn
import Derived.Sort.BigQuietIn
import Derived.Sort.CutIn
import Derived.Maps.OwnSet
import Derived.Maps.Views
import Derived.StringKeys
set_option linter.all false
set_option maxRecDepth 100000
set_option maxHeartbeats 4000000
open Go renaming Addr.mk->T,Value.slice->Y,Obj.cells->N,IntKind.i64->I,World->E,Value->ZB,TypeId->ZK,Ending.returned->ZI,World.heap->U,World.alloc->A,World.cell?->ZW,World.frozen?->ZX,World.setCell->ZU,Proofs.Tryz.prog->Pg,Calls->Qw
open Option renaming none->Z,some->Q
open Bool renaming false->ZA,true->ZH
open Array renaming size->J
open List renaming length->ZV
namespace Go.Proofs.YtcnilonhfpimnaaGreatDoor.Vp
open Tryz RowKit
variable {n l b off j_ n1 L M i m:Nat}{W g:E}{f:Nat->au}{s:Nat->Bool}{pre:List (Nat × Nat)}{ZP:ZK}{P:Program}{R:Ending->E->Prop}{x:Nat × Nat}
def GW{k:Nat}{D:DataW Unit}(b:Maps.IsMap D)(h:∀p,Maps.has D (.string (f p).e.data.toList)=!bj f p k)(d:DataW Unit):∀p,Maps.has (D.put (.string (f k).e.data.toList) d) (.string (f p).e.data.toList)=!bj f p (k+1):=by
 intro p;rw[bj,Bool.not_and,<-h p,Bool.not_not];by_cases e:(f p).e.data.toList=(f k).e.data.toList;{rw[e,Maps.has_put_same b (by simp[WideAt.IsKeyLit])];simp[NJ,e]}
 ·rw[YE (by simpa using e)];have:((f k).e.toList == (f p).e.toList)=ZA:=by simpa[NJ] using λh=>e (by rw[h])
  rw[this];simp
def tK (b off n j_:Nat)(f:Nat->au)(w:E)(hn:(n:Int)<=400)(R:Qk w b off n f)(V:∀i,i<n->(f i).e.size<=maxLen):Qw Pg 106 #[.agg #[Y (Q (T b off Z)) n j_]] w λe w'=>e=ZI (.int I (aQ (λp=>bj f p p) n))/\Below (J (U w)) w w':=by
 have HF:=ae R;have HS:=ae V;clear R V;have ZP:=ae (((BS w).alloc ly (N #[Y (Q (T b off Z)) n j_] 25)).alloc (by simp) (.map #[] 0));have B:=ae (YF (A w (N #[Y (Q (T b off Z)) n j_] 25)) Pg 9 (plainElem (H:=Unit) Pg 3));have hz:J (U (A w (N #[Y (Q (T b off Z)) n j_] 25)))=J (U w)+1:=by simp
 rw[hz] at B;clear hz;obtain⟨r,K⟩:∃r,r=aQ (λp=>bj f p p) n:=⟨_,rfl⟩
 rw[<-K];have M:=ae K;clear K;have ZO:=@run_makeMap Pg;go_enter func106,ntmps106;go_wp2;clear ZO;generalize World.alloc (World.alloc w _) _=W at ZP B ⊢;obtain⟨o,ZY⟩:∃o,o=J (U w)+1:=⟨_,rfl⟩
 rw[<-ZY] at B ⊢;have O:=ae ZY;clear ZY;go_loopw [12] (λi wr=>∃(k:Nat) (D:DataW Unit),k<=n/\i=.int I k/\Hid (∀j,j<k->bj f j j=ZH)/\Hid (wr.ownsMap Pg 9 (plainElem (H:=Unit) Pg 3) o k D)/\Hid (∀p,Maps.has D (.string (f p).e.data.toList)=!bj f p k)/\Hid (Below (J (U w)) w wr)) (λi _=>n - (intOf i).toNat);case atStart=>exact⟨0,_,by omega,rfl,λj L=>absurd L (NE _),B,λp=>rfl,ZP⟩
 case round =>
  obtain⟨k,D,hk,rfl,ZR,C,ZQ,l⟩:=hrel;by_cases q:k<n
  ·obtain⟨p0,p1,p2,p3,⟨a0,s,p4,ZM⟩,⟨a1,x,p5,X⟩⟩:=(HF.aa l ly).2 k q;clear ZM X;have z:=QS (P:=Pg) (k:=9) ES (HS k q);have h:=ae z;have G:=ae (ZQ k);clear z;cases hnew:bj f k k with
   |false =>
    have t:Maps.has D (.string (f k).e.data.toList)=ZH:=by rw[G.i,hnew];rfl
    have HHS:=ae t;obtain rfl:r=k:=by rw[M.i];exact fQ q hnew ZR
    clear hnew;have ZS:=ae (l.alloc l.size (N #[.string (f k).e,.int I (f k).L,.int I (f k).M,.string (f k).H,Y a0 (f k).h s,Y a1 (f k).f x] 62));go_wp2_with (at_lookup;refine wpList_lookup_own_ok_int _ rfl _ _ 211 rfl 9 3 I (SY ES) YG OD (PV _) o k D rfl (C.alloc _) _ _ rfl h ?_;intro c y u;clear y u);go_ret;exact⟨rfl,ZS⟩
   |true =>
    have t:Maps.has D (.string (f k).e.data.toList)=ZA:=by rw[G.i,hnew];rfl
    have ZN:=ae hnew;clear hnew;have ZT:(Lit.int I (k:Int)).wf=ZH:=by simp only[Lit.wf,IntKind.min,IntKind.max,IntKind.signed,IntKind.bits,j6,nD,Y2];omega
    have S:=ae ZT;clear ZT
    go_wp2_with (first
     |(at_lookup;refine wpList_lookup_own_ok_int _ rfl _ _ 211 rfl 9 3 I (SY ES) YG OD (PV _) o k D rfl (C.alloc _) _ _ rfl h ?_;intro c y u;clear y u)
     |(at_mapUpdate;refine WZ _ rfl _ _ _ 211 rfl 9 3 (SY ES) YG _ o k D rfl (C.alloc _) (by unfold maxLen;omega) _ _ _ rfl rfl h _ [] (plainElem_int OD S) ?_;intro w1 m g;have ZL:=ae m;have ZS:=ae (bg (l.alloc l.size (N #[.string (f k).e,.int I (f k).L,.int I (f k).M,.string (f k).H,Y a0 (f k).h s,Y a1 (f k).f x] 62)) g (by have:=l.size;simp;omega) (λj e=>by cases e;have:=O.i;omega));clear m g))
    exact⟨⟨k+1,_,by omega,by go_num,λj L=>by
     by_cases e:j=k;{subst e;exact ZN}
     ·exact ZR j (by omega),ZL,GW C.isMap ZQ _,ZS⟩,by simp[intOf];omega⟩
  ·have e:n=k:=by omega
   subst e;obtain rfl:r=-1:=by rw[M.i];exact ej ZR
   go_wp2;go_ret;exact⟨rfl,l⟩
open Go.Shelf Ca
attribute [local go_sem] Oper.semAt_some
structure LSt (w0 W:E)(n1 b off n j_ L M l:Nat)(s:Nat->Bool):Prop where
 c0:ZW W (T L 0 Z)=Q (Y (Q (T b off Z)) n j_)
 c1:ZW W (T L 1 Z)=Q (Y (Q (T M 0 Z)) n n)
 c2:ZW W (T L 2 Z)=Q (.func (.yield l) #[] #[])
 row:∀q,q<n->ZW W (T M q Z)=Q (.bool (s q))/\ZX W (T M q Z)=ZA
 low:Below (J (U w0)) w0 W
 hL:n1<=L/\L<J (U W)
 hM:n1<=M/\M<J (U W)
 ne:L≠M
 hb:J (U w0)<=n1
 tyM:OfTy W M 4
 tyL:OfTy W L 247
def LSt.blocks{f:E}(h:LSt g W n1 b off n j_ L M l s)(hz:J (U W)<=J (U f))(m:f.heap[L]?=W.heap[L]?)(i:f.heap[M]?=W.heap[M]?)(p:Below (J (U g)) g f):LSt g f n1 b off n j_ L M l s:=by have c:∀o,ZW f (T L o Z)=ZW W (T L o Z):=λo=>cq (a:=(T L o Z)) m;exact⟨(c 0).k h.c0,(c 1).k h.c1,(c 2).k h.c2,λq j=>⟨(cq (a:=(T M q Z)) i).k (h.row q j).1,(NF (a:=(T M q Z)) i).k (h.row q j).2⟩,p,⟨h.hL.1,lj h.hL.2 hz⟩,⟨h.hM.1,lj h.hM.2 hz⟩,h.ne,h.hb,h.tyM.eq i,h.tyL.eq m⟩
def LSt.aa{f:E}(h:LSt g W n1 b off n j_ L M l s)(hb:Below (J (U W)) W f):LSt g f n1 b off n j_ L M l s:=
 h.blocks hb.size (hb.p L h.hL.2) (hb.p M h.hM.2) (h.low.k (hb.P h.low.size))
def LSt.upd{i:E}(j:ZP≠4/\ZP≠247)(h:LSt g W n1 b off n j_ L M l s)(f:Upd2 ZP (J (U g)) n1 W i):LSt g i n1 b off n j_ L M l s:=
 h.blocks f.size (f.p L h.hL.2 (.inr ⟨h.hL.1,h.tyL.ne j.2⟩)) (f.p M h.hM.2 (.inr ⟨h.hM.1,h.tyM.ne j.1⟩)) (h.low.k (f.aa h.low.size))
def LSt.set{p:Nat}(h:LSt g W n1 b off n j_ L M l s)(hp:p<n):LSt g (ZU W (T M p Z) (.bool ZH)) n1 b off n j_ L M l (put s p):=by
 have c:∀o,ZW (ZU W (T M p Z) (.bool ZH)) (T L o Z)=ZW W (T L o Z):=λo=>sq _ _ _ _ (by simp;exact λe=>absurd e.c h.ne);refine⟨(c 0).k h.c0,(c 1).k h.c1,(c 2).k h.c2,λq f=>⟨?_,by simpa using(h.row q f).2⟩,h.low.setCell (by have:=h.hM.1;have:=h.hb;show _<=M;omega) _,by simpa using h.hL,by simpa using h.hM,h.ne,h.hb,h.tyM.set _ _,h.tyL.set _ _⟩;by_cases e:q=p;{subst e;rw[BO _ _ _ (by rw[(h.row q f).1];rfl)];simp[put]};{rw[sq _ _ _ _ (by simp),(h.row q f).1];simp[put,e]}
def qi{go:Nat->Nat->(Nat->Bool)->(Nat->Bool) × List (Nat × Nat)}{x:au}{d:Nat}(h:i<=m):(lks go x d s i).2 <+: (lks go x d s m).2:=by
 induction m with
 |zero =>
  obtain rfl:i=0:=by omega
  exact XH
 |succ k b =>
  by_cases e:i=k+1;{subst e;exact XH};{refine(b (by omega)).k ?_;rw[lks];split;{exact YH _ _};{exact XH}}
def GY (hT:ZP≠4/\ZP≠247)(P:E)(n1 b off n j_ L M l:Nat)(H:List (Nat × Nat))(f:Nat->au)(ZR Jx:List (Nat × Nat)->E->Prop)(hA:gA f n)(hn:(n:Int)<=400)(hf:Qk P b off n f)(hlk:∀p,p<n->(f p).f<=200)
  (hJ:∀s ZY C,ZR s ZY->Itr 4 n1 ZY C->ZR s C) (ld:∀s ZY C,Jx s ZY->Itr 4 n1 ZY C->Jx s C)
  (hY:∀m pre (x:Nat × Nat) W,x.1<n->ZR pre W->pre++[x] <+: H->n1<=J (U W)->YieldAt Fence.wide m Pg l #[.int I (x.1:Int),.int I (x.2:Int)] W λe D =>
   (e=ZI (.bool ZH)/\ZR (pre++[x]) D/\Upd2 ZP (J (U P)) n1 W D)\/(e=ZI (.bool ZA)/\Jx (pre++[x]) D)) :
  ∀(k p d:Nat) (s:Nat->Bool) (pre:List (Nat × Nat)) (W:E) (ZS:Nat),p<k->p<n->d+p<=1000->LSt P W n1 b off n j_ L M l s->s p=ZA->ZR pre W->pre++(lst f k p d s).2 <+: H ->
   CallsIn Fence.wide ZS Pg 167 #[.pointer (Q (T L 0 Z)),.int I (p:Int),.int I (d:Int)] W λe D =>(e=ZI (.bool ZH)/\ZR (pre++(lst f k p d s).2) D/\LSt P D n1 b off n j_ L M l (lst f k p d s).1)\/(e=ZI (.bool ZA)/\∃q,q <+: (lst f k p d s).2/\Jx (pre++q) D):=by
 intro k;induction k with
 |zero=>intro p d s pre W ZS h;omega
 |succ k ih =>
  intro p d s pre W ZS hpk G hdp hS hs n9 hN;have HS:=ae hS;have Fm:=ae n9;have HN:=ae hN;have Fd:=ae ih;have HY:=ae hY;have HJ:=ae hJ;have HJx:=ae ld;have HA:=ae hA;have HF:=ae hf;obtain⟨_,_,_,_,_,⟨a1,cap1,qr,q5⟩⟩:=hf.2 p G;have p5:=(hS.low.O (p:=(T b (off+p*6+5) Z)) hf.1).k qr;obtain⟨m,hm⟩:∃m,m=(f p).f:=⟨_,rfl⟩
  have hm2:m<=200:=by rw[hm];exact hlk p G
  rw[<-hm] at p5 q5;have HL:=ae q5;have HM:=ae hm;have e0:=hS.c0;obtain⟨K,hK⟩:∃K,K=lks (lst f k) (f p) d s:=⟨_,rfl⟩
  have ZQ:Hid (lst f (k+1) p d s=(put (K m).1 p,(K m).2++[(p,d)])):=by rw[hK,hm];rfl
  have n8:Hid (K 0=(s,[])):=by rw[hK];rfl
  have DQ:Hid (∀j,K (j+1)=if ((f p).m j).ask=ZH/\(K j).1 ((f p).m j).G.toNat=ZA then ((lst f k ((f p).m j).G.toNat (d+1) (K j).1).1,(K j).2++(lst f k ((f p).m j).G.toNat (d+1) (K j).1).2) else K j):=λj=>by rw[hK];rfl
  have Fk:Hid (∀i,i<=m->(K i).2 <+: (K m).2):=λi hi=>by rw[hK];exact qi hi
  clear hS n9 hN ih hY hJ ld hA hf q5 hm hlk qr hK;refine YX func167 rfl trivial ?_ rfl;simp only[ntmps167,QF,vF,IS,Nat.reduceAdd,Nat.reduceSub,QX,QY,SZ,RC,NR,OV];gi_wp2;clear e0 p5;gi_loopw [18] (λi wr=>∃j:Nat,j<=m/\i=.int I j/\Hid (LSt P wr n1 b off n j_ L M l (K j).1)/\Hid (ZR (pre++(K j).2) wr)) (λi _=>m - (intOf i).toNat);case atStart=>exact⟨0,by omega,rfl,by rw[n8.i];exact HS,by rw[n8.i,XI];exact Fm⟩
  case round =>
   obtain⟨j,hj,rfl,g,la⟩:=hrel;by_cases ur:j<m
   ·obtain⟨lb,lo,rfl,ZM⟩:=(HL.aa g.low ly).resolve_left (by omega);obtain⟨d0,d1,d2,d3⟩:=ZM.2 j ur;clear ZM;have R:=DQ.i j;have bt:=HA.i p G j (by have:=HM.i;omega);generalize (f p).m j=x at d0 d1 d2 d3 R bt;have S:=ae R;clear R;have ZT:=ae (g.aa (br.alloc ly (N #[.string x.e,.bool x.ask,.bool x.has,.int I x.G] 65)));have V:=ae (HJ _ _ _ la (Itr.l ((BS wr).alloc ly (N #[.string x.e,.bool x.ask,.bool x.has,.int I x.G] 65)) ly (by have:=g.hL;omega)));have e1:ZW (A wr (N #[.string x.e,.bool x.ask,.bool x.has,.int I x.G] 65)) (T (J (U wr)) 1 Z)=Q (.bool x.ask):=by simp
    have e3:ZW (A wr (N #[.string x.e,.bool x.ask,.bool x.has,.int I x.G] 65)) (T (J (U wr)) 3 Z)=Q (.int I x.G):=by simp
    have sm:=ae bt;clear bt;gi_upto_region 4 with fail;clear d0 d1 d2 d3;generalize World.alloc wr _=u at ZT V e1 e3 ⊢;generalize (J (U wr))=X at e1 e3 ⊢;cases hask:x.ask with
    |false =>
     have o:K (j+1)=K j:=by rw[S.i,eI (by rw[hask];simp)]
     have t:=ae o;clear o;rw[hask] at e1;have Bk:∀f,Fence.wide.fn f=True:=λ_=>rfl;gi_quiet (fail);have ZO:=ae (ZT.aa (AD (BS u) nq));have J2:=ae (HJ _ _ _ V (Itr.l (AD (BS u) nq) ly (by have:=ZT.hL;omega)));gi_wp2;exact⟨⟨j+1,by omega,by go_num,by rw[t.i];exact ZO,by rw[t.i];exact J2⟩,by simp[intOf];omega⟩
    |true =>
     obtain⟨q,hq⟩:∃q:Nat,x.G=(q:Int):=⟨x.G.toNat,by have:=(sm hask).2;omega⟩
     have hqp:q<p:=by have:=(sm hask).1;rw[hq] at this;simpa using this
     rw[hq] at e3;rw[hask] at e1;have f1:=ZT.c1;obtain⟨f2,_⟩:=ZT.row q (by omega);have hq0:(0:Int)<=q:=by omega
     have hqn:(q:Int)<n:=by omega
     have Bk:∀f,Fence.wide.fn f=True:=λ_=>rfl;cases hl:(K j).1 q with
     |true =>
      have o:K (j+1)=K j:=by rw[S.i,eI (by rw[hq];simp[hl])]
      have t:=ae o;clear o;rw[hl] at f2;gi_quiet (fail);have ZO:=ae (ZT.aa (AD (BS u) nq));have J2:=ae (HJ _ _ _ V (Itr.l (AD (BS u) nq) ly (by have:=ZT.hL;omega)));gi_wp2;exact⟨⟨j+1,by omega,by go_num,by rw[t.i];exact ZO,by rw[t.i];exact J2⟩,by simp[intOf];omega⟩
     |false =>
      have o:K (j+1)=((lst f k q (d+1) (K j).1).1,(K j).2++(lst f k q (d+1) (K j).1).2):=by rw[S.i,eT ⟨hask,by rw[hq];simpa using hl⟩,hq];simp
      have t:=ae o;have aq:=Fk.i (j+1) (by omega);rw[o] at aq;have mv:=ae aq;have ex:((d+1:Nat):Int)=(d:Int)+1:=by omega
      have HC:Hid (∀ZN ZS,LSt P ZN n1 b off n j_ L M l (K j).1->ZR (pre++(K j).2) ZN->CallsIn Fence.wide ZS Pg 167 #[.pointer (Q (T L 0 Z)),.int I (q:Int),.int I ((d:Int)+1)] ZN λe D =>
        ∃r:Bool,e=ZI (.bool r)/\Hid ((r=ZH/\ZR (pre++(K (j+1)).2) D/\LSt P D n1 b off n j_ L M l (K (j+1)).1)\/(r=ZA/\∃q,q <+: (K m).2++[(p,d)]/\Jx (pre++q) D))):=by
       intro ZN ZS h1 h2;have O:(pre++(K j).2)++(lst f k q (d+1) (K j).1).2 <+: H:=by have B:=HN.i;rw[ZQ.i] at B;obtain⟨z,hz⟩:=B;obtain⟨y,ZL⟩:=mv.i;exact⟨y++[(p,d)]++z,by rw[<-hz];simp only[];rw[<-ZL];simp⟩
       have h:=Fd.i q (d+1) (K j).1 (pre++(K j).2) ZN ZS (by omega) (by omega) (by omega) h1 hl h2 O;rw[ex] at h;refine h.P λe D h=>?_;rcases h with⟨he,hj,hs⟩|⟨he,q',GS,hx⟩
       ·exact⟨ZH,he,.inl ⟨rfl,by rw[t.i,<-NP];exact hj,by rw[t.i];exact hs⟩⟩
       ·refine⟨ZA,he,.inr ⟨rfl,(K j).2++q',?_,by rw[<-NP];exact hx⟩⟩
        obtain⟨z,hz⟩:=GS;obtain⟨y,ZL⟩:=mv.i;exact⟨z++y++[(p,d)],by rw[<-ZL,<-hz];simp⟩
      have At:=ae (ZT.aa ((BS u).drew));have DE:=ae (HJ _ _ _ V (Itr.l (BS u).drew ly (by have:=ZT.hL;omega)));have hwr:IntKind.i64.wrap ((d:Int)+1)=(d:Int)+1:=by rw[nL];omega
      clear o aq;rw[hl] at f2;gi_region_with ((try refine⟨λh=>(by cases h),?_⟩);gi_at_call 167;refine(HC _ _ ?_ ?_).P ?_;(first|exact At|exact ZT);(first|exact DE|exact V);rintro e W3⟨r,rfl,H3⟩);all_goals
       cases r with
       |true =>have B:=H3.resolve_right (λh=>by cases h.1);have S3:=ae B.2.2;have J3:=ae B.2.1;clear B H3;gi_wp2;exact⟨⟨j+1,by omega,by go_num,S3,J3⟩,by simp[intOf];omega⟩
       |false =>have B:=H3.resolve_left (λh=>by cases h.1);have X3:=ae B.2;clear B H3;gi_wp2;go_ret;rw[ZQ.i];exact .inr ⟨rfl,X3⟩
   ·have e:m=j:=by omega
    subst e;have ZO:=ae (g.set G);have J2:=ae (HJ _ _ _ la (Itr.setCell wr (p:=(T M p Z)) g.hM.1 g.tyM (.bool ZH)));have O:(pre++(K m).2)++[(p,d)] <+: H:=by have B:=HN.i;rw[ZQ.i] at B;simpa using B
    have th:=HY.i (ZS - 1) (pre++(K m).2) (p,d) _ G J2 O (by have:=g.hL;simp;omega);obtain⟨fn,tmps,assign,body,ZL,hR⟩:=th;dsimp only at ZL;have HR:=ae hR;clear hR;have g1:=g.c1;obtain⟨g3,g4⟩:=g.row p G;have g2:=ZO.c2;have hp0:(0:Int)<=p:=by omega
    have hpn':(p:Int)<n:=by omega
    gi_wp2;refine⟨λh=>(by cases h),HR.P ?_⟩;rintro e W3 (⟨rfl,fd,ro⟩|⟨rfl,ph⟩);{have J3:=ae fd;have S3:=ae (ZO.upd hT ro);clear fd ro;gi_wp2;go_ret;rw[ZQ.i];exact .inl ⟨rfl,by rw[<-NP];exact J3,S3⟩};{have X3:=ae ph;clear ph;gi_wp2;go_ret;rw[ZQ.i];exact .inr ⟨rfl,_,XH,by rw[<-NP];exact X3⟩}
attribute [local go_sem] Oper.semAt_some
def Ef{F:Fence}(b:F.depth=Z){g:Nat}{f:FuncId}{tmps:Array ZB}{assign body:Code}{w:E}
  (h:RoundIn F m P l f tmps assign body w R):RoundIn F g P l f tmps assign body w R:=⟨h.1,λc i _=>h.2 c i (λd h=>by rw[b] at h;cases h)⟩
def Eg{F:Fence}(b:F.depth=Z)(f:Nat){args:Array ZB}(h:YieldAt F m P l args W R):YieldAt F f P l args W R:=by obtain⟨fn,tmps,assign,body,g,hR⟩:=h;exact⟨fn,tmps,assign,body,g,Ef b hR⟩
def Eh:(Pg.info? 4).map (λi=>(i.zero,i.size,i.bytes))=Q (Q (.bool ZA),1,1):=by kernel_rfl
def bH (n:Nat):Array ZB:=madeCells (Value.bool ZA).cells n
def Bb (n:Nat)(hn:n<=1048576)(w:E):(Instr.makeSlice 166 (.int I (n:Int)) (.int I (n:Int))).run Pg w=.ok (Y (Q (T (J (U w)) 0 Z)) n n) (w.alloc (N (bH n) 4)):=by obtain⟨i,hi,hz⟩:=RF.1 Eh;simp only[LK] at hz;obtain⟨h1,h2,b⟩:=hz;have h:=run_make (P:=Pg) w 166 4 i _ underlying166 hi h1 I I n n (by omega) (YR _) (by rw[b];omega) (by omega);rw[h2] at h;simpa[bH] using h
def ux (n q:Nat)(h:q<n):(bH n)[q]?=Q (.bool ZA):=by unfold bH madeCells;simp[Value.cells,h,Nat.mod_one]
def qj (W:E)(n q:Nat)(h:q<n):(W.alloc (N (bH n) 4)).cell? (T (J (U W)) q Z)=Q (.bool ZA)/\(W.alloc (N (bH n) 4)).frozen? (T (J (U W)) q Z)=ZA:=by
 have e:=gM W (N (bH n) 4);refine⟨?_,?_⟩;{rw[cell_of_row _ _ _ _ _ _ e];exact ux n q h};{unfold World.frozen?;rw[e];simp}
def Ei (f:Below (J (U g)) g W):LSt g ((W.alloc (N (bH n) 4)).alloc (N #[Y (Q (T b off Z)) n j_,Y (Q (T (J (U W)) 0 Z)) n n,.func (.yield l) #[] #[]] 247)).drew (J (U W)) b off n j_ (J (U W)+1) (J (U W)) l (λ_=>ZA):=by
 have hz:(W.alloc (N (bH n) 4)).heap.size=J (U W)+1:=by simp
 have D:Below (J (U W)+1) (W.alloc (N (bH n) 4)) ((W.alloc (N (bH n) 4)).alloc (N #[Y (Q (T b off Z)) n j_,Y (Q (T (J (U W)) 0 Z)) n n,.func (.yield l) #[] #[]] 247)).drew:=(br.alloc (by omega) _).drew;refine⟨?_,?_,?_,λq i=>?_,((f.alloc f.size _).alloc (by simp;have:=f.size;omega) _).drew,by simp,by simp;omega,by omega,f.size,?_,?_⟩;{simp};{simp};{simp};{exact⟨(D.O (p:=(T (J (U W)) q Z)) (eL _)).k (qj W n q i).1,(D.frozen (p:=(T (J (U W)) q Z)) (eL _)).k (qj W n q i).2⟩};{exact(OfTy.new W _ _).eq (D.p _ (eL _))};{have h:=OfTy.new (W.alloc (N (bH n) 4)) #[Y (Q (T b off Z)) n j_,Y (Q (T (J (U W)) 0 Z)) n n,.func (.yield l) #[] #[]] 247;rw[hz] at h;exact h.eq rfl}
def Ej (f:Below (J (U g)) g W):LSt g ((A W (N #[Y (Q (T b off Z)) n j_,Y (Q (T (J (U W)+1) 0 Z)) n n,.func (.yield l) #[] #[]] 247)).alloc (N (bH n) 4)).drew (J (U W)) b off n j_ (J (U W)) (J (U W)+1) l (λ_=>ZA):=by
 have hz:J (U (A W (N #[Y (Q (T b off Z)) n j_,Y (Q (T (J (U W)+1) 0 Z)) n n,.func (.yield l) #[] #[]] 247)))=J (U W)+1:=by simp
 have D:Below (J (U W)+1) (A W (N #[Y (Q (T b off Z)) n j_,Y (Q (T (J (U W)+1) 0 Z)) n n,.func (.yield l) #[] #[]] 247)) ((A W (N #[Y (Q (T b off Z)) n j_,Y (Q (T (J (U W)+1) 0 Z)) n n,.func (.yield l) #[] #[]] 247)).alloc (N (bH n) 4)).drew:=(br.alloc (by omega) _).drew;refine⟨(D.O (p:=(T (J (U W)) 0 Z)) (eL _)).k (by simp),(D.O (p:=(T (J (U W)) 1 Z)) (eL _)).k (by simp),(D.O (p:=(T (J (U W)) 2 Z)) (eL _)).k (by simp),λq i=>?_,((f.alloc f.size _).alloc (by simp;have:=f.size;omega) _).drew,by simp;omega,by simp,by omega,f.size,?_,?_⟩;{have h:=qj (A W (N #[Y (Q (T b off Z)) n j_,Y (Q (T (J (U W)+1) 0 Z)) n n,.func (.yield l) #[] #[]] 247)) n q i;rw[hz] at h;exact h};{have h:=OfTy.new (A W (N #[Y (Q (T b off Z)) n j_,Y (Q (T (J (U W)+1) 0 Z)) n n,.func (.yield l) #[] #[]] 247)) (bH n) 4;rw[hz] at h;exact h.eq rfl};{exact(OfTy.new W _ _).eq (D.p _ (eL _))}
def qk (v:ZB)(w:E)(b:Nat):CallsIn Fence.wide b Pg 146 #[.agg #[v]] w λe f=>e=ZI (.func (.func 166) #[] #[.pointer (Q (T (J (U w)) 0 Z))])/\f=A w (N #[v] 25):=by refine YX func146 rfl trivial ?_ rfl;simp only[ntmps146,QF,vF,IS,Nat.reduceAdd,Nat.reduceSub,QX,QY,SZ,RC,NR,OV];gi_wp2;go_ret;exact⟨rfl,rfl⟩
def uy (hT:ZP≠4/\ZP≠247)(j:E)(b off n j_ t B:Nat)(f:Nat->au)(w:E)(hA:gA f n)(hn1:1<=n)(hn:(n:Int)<=400)(hf:Qk j b off n f)(hlk:∀p,p<n->(f p).f<=200)(o:Below (J (U j)) j w)(G:ZW w (T t 0 Z)=Q (Y (Q (T b off Z)) n j_))(u:t<J (U w)):SeqT2 ZP 4 Fence.wide B Pg 166 #[.pointer (Q (T t 0 Z))] (λx:Nat × Nat=>#[Value.int I (x.1:Int),Value.int I (x.2:Int)]) (λpre x=>x.1<n/\pre++[x] <+: aG f n) (J (U j)) (λg=>g=aG f n) (λpre=>pre <+: aG f n) w:=by
 intro l ZR P W C S D hY ZY;have ZM:=GY hT j (J (U W)) b off n j_;have H:=ae ZM;clear ZM;have X:=(C.O (p:=(T t 0 Z)) u).k G;have ZN:=λw=>Bb n (by omega) w;have hwb:IntKind.i64.wrap ((n:Int) - 1)=(n:Int) - 1:=by rw[nL];omega
 have ZO:=ae S;have K:=ae D;have HY:=ae hY;have H0:=ae ZY;have HA:=ae hA;have ZL:=ae hf;have ZS:=ae hlk;have i:=ae (o.k (C.P o.size));have bt:t<J (U W):=lj u C.size;clear S D hY ZY hA hf hlk o C G u;refine YX func166 rfl trivial ?_ rfl;simp only[ntmps166,QF,vF,IS,Nat.reduceAdd,Nat.reduceSub,QX,QY,SZ,RC,NR,OV];have ZT:∀L M y,LSt j y (J (U W)) b off n j_ L M l (λ_=>ZA)->Below (J (U W)) W y->CallsIn Fence.wide (B - 1) Pg 167 #[.pointer (Q (T L 0 Z)),.int I ((n:Int) - 1),.int I 0] y λe s =>
   ∃r:Bool,e=ZI (.bool r)/\Hid ((∃g,g=aG f n/\ZR g s)\/(∃pre,pre <+: aG f n/\P pre s)):=by
  intro L M y R aq;have h:=H.i L M l (aG f n) f ZR P HA hn ZL ZS ZO K (λm pre x W1 ZY h1 h2 h3=>Eg rfl m (HY pre x W1 ⟨ZY,h2⟩ h1 h3)) n (n - 1) 0 (λ_=>ZA) [] y (B - 1) (by omega) (by omega) (by omega) R rfl (ZO _ _ _ H0 (Itr.l aq ly  ly)) (by simp[aG]);rw[show((n - 1:Nat):Int)=(n:Int) - 1 by omega] at h;refine h.P λe s h=>?_;rcases h with⟨O,hj,_⟩|⟨O,q,hq,hx⟩
  ·exact⟨ZH,O,.inl ⟨_,rfl,by simpa[aG] using hj⟩⟩
  ·exact⟨ZA,O,.inr ⟨q,hq,by simpa using hx⟩⟩
 have z:=ae ZT;have D1:=ae (((BS W).alloc ly (N (bH n) 4)).alloc (by simp) (N #[Y (Q (T b off Z)) n j_,Y (Q (T (J (U W)) 0 Z)) n n,.func (.yield l) #[] #[]] 247)).drew;have D2:=ae (((BS W).alloc ly (N #[Y (Q (T b off Z)) n j_,Y (Q (T (J (U W)+1) 0 Z)) n n,.func (.yield l) #[] #[]] 247)).alloc (by simp) (N (bH n) 4)).drew;have hfw:∀f,Fence.wide.fn f=True:=λ_=>rfl;clear ZT H ZO K HY H0 HA ZL ZS;gi_upto_region 0 with fail;gi_cut [3] from 4 (λs3 V=>∃L,s3=.pointer (Q (T L 0 Z))/\Hid (∃M,LSt j V (J (U W)) b off n j_ L M l (λ_=>ZA))/\Hid (Below (J (U W)) W V));case first =>
  have hsf:=λ(w:E) (a:Addr) (m:Mode)=>run_store Pg w a (.func (.yield l) #[] #[]) m rfl;gi_region_with fail;all_goals
   gi_wp2_with fail;gi_meet;first
    |exact⟨J (U W)+1,rfl,⟨J (U W),Ei i⟩,D1⟩
    |exact⟨J (U W),rfl,⟨J (U W)+1,Ej i⟩,D2⟩
 case rest =>
 obtain⟨L,rfl,HS,ZQ⟩:=hcut;have hB1:=(ZQ.O (p:=(T t 0 Z)) bt).k X;have HC:Hid (CallsIn Fence.wide (B - 1) Pg 167 #[.pointer (Q (T L 0 Z)),.int I ((n:Int) - 1),.int I 0] wc λe s=>∃r:Bool,e=ZI (.bool r)/\Hid ((∃g,g=aG f n/\ZR g s)\/(∃pre,pre <+: aG f n/\P pre s))):=by obtain⟨M,R⟩:=HS.i;exact z L M wc R ZQ
 clear z HS ZN ZQ i D1 D2 X;gi_wp2_with ((try refine⟨λh=>(by cases h),?_⟩);gi_at_call 167;refine HC.P ?_;rintro e W3⟨r,rfl,H3⟩);go_end0;exact⟨⟨_,rfl⟩,H3⟩
def oM (g:E)(b off n j_ i m:Nat)(f:Nat->au)(w:E)(q:gA f n)(hn1:1<=n)(hn:(n:Int)<=400)(r:Qk g b off n f)(hlk:∀p,p<n->(f p).f<=200)(j:Below (J (U g)) g w)(l:ZW w (T i 0 Z)=Q (Y (Q (T b off Z)) n j_))(o:i<J (U w)):DX Fence.wide m Pg 166 #[.pointer (Q (T i 0 Z))] (λx:Nat × Nat=>#[Value.int I (x.1:Int),Value.int I (x.2:Int)]) (λx=>x.1<n) (J (U g)) (λs=>s=aG f n) (λpre=>pre <+: aG f n) (aG f n).length w:=
 (uy (ZP:=62) ⟨by decide,by decide⟩ g b off n j_ i m f w q hn1 hn r hlk j l o).plain λpre x h=>⟨h.1,by have:=h.2.length_le;simp at this;omega⟩
attribute [local go_sem] Oper.semAt_some
def qn (h:bG i pre=-1):bG i (pre++[x])=if x.1=i+ZV pre then -1 else ((i+ZV pre:Nat):Int):=by
 induction pre generalizing i with
 |nil=>simp[bG]
 |cons y b f =>
  simp only[bG,OV] at h ⊢;split at h
  ·rename_i e;rw[eT e,f h];simp only[vF];have:i+1+ZV b=i+(ZV b+1):=by omega
   rw[this]
  {omega}
def uA{b:List (Nat × Nat)}(f:pre <+: b)(h:bG i pre≠-1):bG i b=bG i pre:=by
 induction pre generalizing i b with
 |nil=>exact absurd rfl h
 |cons y ys g =>
  obtain⟨t,rfl⟩:=f;simp only[bG,OV] at h ⊢;split;{rename_i e;rw[eT e] at h;exact g (YH _ _) h};{rfl}
def xa (h:bm f pre=-1):bm f (pre++[x])=if (f x.1).L=3/\60<=x.2 then (x.1:Int) else -1:=by
 induction pre with
 |nil=>simp[bm]
 |cons y ys b =>
  simp only[bm,OV] at h ⊢;split at h;{omega};{rename_i e;rw[eI e,b h]}
def tL{b:List (Nat × Nat)}(g:pre <+: b)(h:bm f pre≠-1):bm f b=bm f pre:=by
 induction pre generalizing b with
 |nil=>exact absurd rfl h
 |cons y ys i =>
  obtain⟨t,rfl⟩:=g;simp only[bm,OV] at h ⊢;split;{rfl};{rename_i e;rw[eI e] at h;exact i (YH _ _) h}
structure Jo (W:E)(h:Nat)(v:ZB):Prop where
 size:J (U W)=h+4
 r:ZW W (T (h+1) 0 Z)=Q (.int I 0)/\ZX W (T (h+1) 0 Z)=ZA
 t:ZW W (T (h+1+1) 0 Z)=Q (.int I 0)/\ZX W (T (h+1+1) 0 Z)=ZA
 a:ZW W (T (h+1+1+1) 0 Z)=Q v
 a0:ZW W (T h 0 Z)=Q v
def zk (w:E)(v:ZB)(t u:ZK):Jo (A (A (A (A w (N #[v] t)) (N #[.int I 0] u)) (N #[.int I 0] u)) (N #[v] t)) (J (U w)) v:=by
 have f:J (U (A w (N #[v] t)))=J (U w)+1:=by simp
 have b:J (U (A (A w (N #[v] t)) (N #[.int I 0] u)))=J (U w)+1+1:=by simp
 have g:J (U (A (A (A w (N #[v] t)) (N #[.int I 0] u)) (N #[.int I 0] u)))=J (U w)+1+1+1:=by simp
 have j:Below (J (U w)+1) (A w (N #[v] t)) (A (A (A (A w (N #[v] t)) (N #[.int I 0] u)) (N #[.int I 0] u)) (N #[v] t)):=((br.alloc (by omega) _).alloc (by omega) _).alloc (by omega) _;have i:Below (J (U w)+1+1) (A (A w (N #[v] t)) (N #[.int I 0] u)) (A (A (A (A w (N #[v] t)) (N #[.int I 0] u)) (N #[.int I 0] u)) (N #[v] t)):=(br.alloc (by omega) _).alloc (by omega) _;have h:Below (J (U w)+1+1+1) (A (A (A w (N #[v] t)) (N #[.int I 0] u)) (N #[.int I 0] u)) (A (A (A (A w (N #[v] t)) (N #[.int I 0] u)) (N #[.int I 0] u)) (N #[v] t)):=br.alloc (by omega) _;refine⟨by simp,⟨?_,?_⟩,⟨?_,?_⟩,?_,(j.O (p:=(T (J (U w)) 0 Z)) (eL _)).k (by simp)⟩;{refine(i.O (p:=(T (J (U w)+1) 0 Z)) (eL _)).k ?_;rw[<-f];clear j i h f b g;generalize A w (N #[v] t)=W;simp};{refine(i.frozen (p:=(T (J (U w)+1) 0 Z)) (eL _)).k ?_;rw[<-f];clear j i h f b g;generalize A w (N #[v] t)=W;simp};{refine(h.O (p:=(T (J (U w)+1+1) 0 Z)) (eL _)).k ?_;rw[<-b];clear j i h f b g;generalize A (A w (N #[v] t)) (N #[.int I 0] u)=W;simp};{refine(h.frozen (p:=(T (J (U w)+1+1) 0 Z)) (eL _)).k ?_;rw[<-b];clear j i h f b g;generalize A (A w (N #[v] t)) (N #[.int I 0] u)=W;simp};{rw[<-g];clear j i h f b g;generalize A (A (A w (N #[v] t)) (N #[.int I 0] u)) (N #[.int I 0] u)=W;simp}
def tM (b off n j_:Nat)(f:Nat->au)(w:E)(ZN:gA f n)(hn1:1<=n)(hn:(n:Int)<=400)(H:Qk w b off n f)(hlk:∀p,p<n->(f p).f<=200)(hlen:(aG f n).length<=400):Qw Pg 107 #[.agg #[Y (Q (T b off Z)) n j_]] w λe ZL=>e=ZI (.int I (bG 0 (aG f n)))/\Below (J (U w)) w ZL:=by
 refine(XU (n:=3)).1 ?_;have HF:=ae H;have HA:=ae ZN;have V:=ae hlk;clear H ZN hlk;have M:=((((BS w).alloc ly (N #[Y (Q (T b off Z)) n j_] 25)).alloc (by simp) (N #[.int I 0] 3)).alloc (by simp;omega) (N #[.int I 0] 3)).alloc (by simp;omega) (N #[Y (Q (T b off Z)) n j_] 25);have ZP:=ae M;clear M;have ZT:=ae (zk w (Y (Q (T b off Z)) n j_) 25 3);refine callsIn_of_wp_marks func107 rfl trivial ?_ rfl;simp only[ntmps107,QF,vF,IS,Nat.reduceAdd,Nat.reduceSub,QX,QY,SZ,RC,NR,OV];gi_wp2_with (refine⟨trivial,?_⟩;gi_at_call 146;refine(qk _ _ _).P ?_;rintro e ZL⟨rfl,rfl⟩);generalize World.alloc (World.alloc (World.alloc (World.alloc w _) _) _) _=W at ZP ZT ⊢;have hsz:=ZT.size;obtain⟨ZS,ZR⟩:=ZT.r;obtain⟨O,L⟩:=ZT.t;refine jI (F:=Fence.wide) rfl (by omega) (gf:=166) (lb:=#[.pointer (Q (T (J (U w)+1+1+1) 0 Z))]) rfl trivial (enters_of func166 (by kernel_rfl) rfl) (base:=J (U w)) (by omega)
  (oM w b off n j_ (J (U w)+1+1+1) (3 - 1) f W HA hn1 hn HF V ZP ZT.a (by omega)) br (λ_=>rfl)
  (λpre j=>ZW j (T (J (U w)+1+1) 0 Z)=Q (.int I (ZV pre:Int))/\ZX j (T (J (U w)+1+1) 0 Z)=ZA/\ZW j (T (J (U w)+1) 0 Z)=Q (.int I 0)/\ZX j (T (J (U w)+1) 0 Z)=ZA/\Hid (bG 0 pre=-1)/\Hid (Below (J (U w)) w j))
  (λc pre j=>c=.ret/\ZW j (T (J (U w)+1) 0 Z)=Q (.int I (bG 0 pre))/\Hid (bG 0 pre≠-1)/\Hid (Below (J (U w)) w j))
  (λs ZY B h i=>⟨(i.O (p:=(T (J (U w)+1+1) 0 Z)) (by show (J (U w))+1+1<J (U W);omega)).k h.1,(i.frozen (p:=(T (J (U w)+1+1) 0 Z)) (by show (J (U w))+1+1<J (U W);omega)).k h.2.1,(i.O (p:=(T (J (U w)+1) 0 Z)) (by show (J (U w))+1<J (U W);omega)).k h.2.2.1,(i.frozen (p:=(T (J (U w)+1) 0 Z)) (by show (J (U w))+1<J (U W);omega)).k h.2.2.2.1,h.2.2.2.2.1,h.2.2.2.2.2.k (i.P (by omega))⟩)
  (λc s ZY B h i=>⟨h.1,(i.O (p:=(T (J (U w)+1) 0 Z)) (by show (J (U w))+1<J (U W);omega)).k h.2.1,h.2.2.1,h.2.2.2.k (i.P (by omega))⟩)
  ⟨O,L,ZS,ZR,rfl,ZP⟩
  (λx=>{ tmps:=#[.agg #[Y (Q (T b off Z)) n j_],.pointer (Q (T (J (U w)) 0 Z)),.pointer (Q (T (J (U w)+1) 0 Z)),.pointer (Q (T (J (U w)+1+1) 0 Z)),.int I (x.1:Int),.agg #[Y (Q (T b off Z)) n j_],.func (.func 166) #[] #[.pointer (Q (T (J (U w)+1+1+1) 0 Z))],.int I (x.1:Int),.int I (x.2:Int),undef,undef,undef,undef,undef,undef],defers:=[] }) ?assign ?body ?done ?stop
 case assign =>intro l x W K q;gi_wp2;exact q
 case body =>
  rintro l pre x g _⟨hc,H,u,ZQ,y,o⟩ hlt hz;clear ZS ZR O L;have hpl:(ZV pre:Int)<=1048576:=by omega
  by_cases hx:(x.1:Int)=(ZV pre:Int)
  ·have D:bG 0 (pre++[x])=-1:=by rw[qn y.i,eT (by omega)]
   have m:=ae D;clear D;have R:=ae (Upd.setCell (P:=λk=>J (U w)<=k/\k<J (U W)) g (p:=(T (J (U w)+1+1) 0 Z)) ⟨by show _<=_+1+1;omega,by show _+1+1<_;omega⟩ (.int I ((ZV pre:Int)+1)));have C:=ae (o.setCell (p:=(T (J (U w)+1+1) 0 Z)) (by show _<=_+1+1;omega) (.int I ((ZV pre:Int)+1)));have c1:ZW (ZU g (T (J (U w)+1+1) 0 Z) (.int I ((ZV pre:Int)+1))) (T (J (U w)+1+1) 0 Z)=Q (.int I ((pre++[x]).length:Int)):=by rw[BO _ _ _ (by rw[hc];rfl)];simp
   have c2:ZW (ZU g (T (J (U w)+1+1) 0 Z) (.int I ((ZV pre:Int)+1))) (T (J (U w)+1) 0 Z)=Q (.int I 0):=by rw[sq _ _ _ _ (by simp)];exact u
   have G:=ae c1;have C2:=ae c2;clear c1 c2;gi_wp2;exact⟨R,G,by simpa using H,C2,by simpa using ZQ,m,C⟩
  ·have D:bG 0 (pre++[x])=(ZV pre:Int):=by rw[qn y.i,eI (by omega)];simp
   have m:=ae D;clear D;have R:=ae (Upd.setCell (P:=λk=>J (U w)<=k/\k<J (U W)) g (p:=(T (J (U w)+1) 0 Z)) ⟨by show _<=_+1;omega,by show _+1<_;omega⟩ (.int I (ZV pre:Int)));have C:=ae (o.setCell (p:=(T (J (U w)+1) 0 Z)) (by show _<=_+1;omega) (.int I (ZV pre:Int)));have G:=ae (BO g (T (J (U w)+1) 0 Z) (.int I (ZV pre:Int)) (by rw[u];rfl));gi_wp2;exact⟨R,rfl,by rw[m.i];exact G,by show _≠_;rw[m.i];omega,C⟩
 case done =>rintro X ys g ZO rfl⟨_,_,u,ZQ,y,o⟩ q;have ZM:=ae ((KeepsOthers.setCell g (T (J (U w)+1) 0 Z) (.int I (-1))).same X _ q rfl);have C:=ae (o.setCell (p:=(T (J (U w)+1) 0 Z)) (by show _<=_+1;omega) (.int I (-1)));have G:=ae (BO g (T (J (U w)+1) 0 Z) (.int I (-1)) (by rw[u];rfl));gi_wp2;refine⟨by simp,.inl ⟨_,_,rfl,run_takeDeferred ZM,?_⟩⟩;have z:=dO (n:=J (U W)) (ZU g (T (J (U w)+1) 0 Z) (.int I (-1))) ZO (CV.1 ZM).1 (.deferred Z);have c:=(z.O (p:=(T (J (U w)+1) 0 Z)) (by show (J (U w))+1<J (U W);omega)).k G;exact⟨.int I (-1),by simp[results,results107,go_sem,c],by rw[y.i],C.k (z.P (by omega))⟩
 case stop =>rintro X c pre g ZO S⟨rfl,u,y,o⟩ q;gi_wp2;refine⟨by simp,.inl ⟨_,_,rfl,run_takeDeferred q,?_⟩⟩;have z:=dO (n:=J (U W)) g ZO (CV.1 q).1 (.deferred Z);have c:=(z.O (p:=(T (J (U w)+1) 0 Z)) (by show (J (U w))+1<J (U W);omega)).k u;exact⟨.int I (bG 0 pre),by simp[results,results107,go_sem,c],by rw[uA S y.i],o.k (z.P (by omega))⟩
structure Jp (W:E)(h:Nat)(v:ZB):Prop where
 size:J (U W)=h+3
 r:ZW W (T (h+1) 0 Z)=Q (.int I 0)/\ZX W (T (h+1) 0 Z)=ZA
 a:ZW W (T (h+1+1) 0 Z)=Q v
 a0:ZW W (T h 0 Z)=Q v
def zm (w:E)(v:ZB)(t u:ZK):Jp (A (A (A w (N #[v] t)) (N #[.int I 0] u)) (N #[v] t)) (J (U w)) v:=by
 have b:J (U (A w (N #[v] t)))=J (U w)+1:=by simp
 have f:J (U (A (A w (N #[v] t)) (N #[.int I 0] u)))=J (U w)+1+1:=by simp
 have h:Below (J (U w)+1) (A w (N #[v] t)) (A (A (A w (N #[v] t)) (N #[.int I 0] u)) (N #[v] t)):=(br.alloc (by omega) _).alloc (by omega) _;have g:Below (J (U w)+1+1) (A (A w (N #[v] t)) (N #[.int I 0] u)) (A (A (A w (N #[v] t)) (N #[.int I 0] u)) (N #[v] t)):=br.alloc (by omega) _;refine⟨by simp,⟨?_,?_⟩,?_,(h.O (p:=(T (J (U w)) 0 Z)) (eL _)).k (by simp)⟩;{refine(g.O (p:=(T (J (U w)+1) 0 Z)) (eL _)).k ?_;rw[<-b];clear h g b f;generalize A w (N #[v] t)=W;simp};{refine(g.frozen (p:=(T (J (U w)+1) 0 Z)) (eL _)).k ?_;rw[<-b];clear h g b f;generalize A w (N #[v] t)=W;simp};{rw[<-f];clear h g b f;generalize A (A w (N #[v] t)) (N #[.int I 0] u)=W;simp}
def xc (b off n j_:Nat)(f:Nat->au)(w:E)(ZO:gA f n)(hn1:1<=n)(hn:(n:Int)<=400)(ZM:Qk w b off n f)(hlk:∀p,p<n->(f p).f<=200):Qw Pg 108 #[.agg #[Y (Q (T b off Z)) n j_]] w λe ZL=>e=ZI (.int I (bm f (aG f n)))/\Below (J (U w)) w ZL:=by
 refine(XU (n:=3)).1 ?_;have ZN:=ae ZM;have HA:=ae ZO;have R:=ae hlk;clear ZM ZO hlk;obtain⟨W,ZT⟩:∃W:E,A (A (A w (N #[Y (Q (T b off Z)) n j_] 25)) (N #[.int I 0] 3)) (N #[Y (Q (T b off Z)) n j_] 25)=W:=⟨_,rfl⟩
 obtain⟨t,-,-,-,-⟩:=nb3 ZT;replace t:=t.i;have ZS:=ae ZT;clear ZT;have A0:=ae t;clear t;have z:=ae (zm w (Y (Q (T b off Z)) n j_) 25 3);refine callsIn_of_wp_marks func108 rfl trivial ?_ rfl;simp only[ntmps108,QF,vF,IS,Nat.reduceAdd,Nat.reduceSub,QX,QY,SZ,RC,NR,OV];gi_wp2_with (refine⟨trivial,?_⟩;gi_at_call 146;refine(qk _ _ _).P ?_;rintro e ZL⟨rfl,rfl⟩);rw[ZS.i] at z ⊢;clear ZS;have hsz:=z.size;obtain⟨G,H⟩:=z.r;have ZP:=z.a0;refine jI (F:=Fence.wide) rfl (by omega) (gf:=166) (lb:=#[.pointer (Q (T (J (U w)+1+1) 0 Z))]) rfl trivial (enters_of func166 (by kernel_rfl) rfl) (base:=J (U w)) (by omega)
  (oM w b off n j_ (J (U w)+1+1) (3 - 1) f W HA hn1 hn ZN R A0 z.a (by omega)) br (λ_=>rfl)
  (λpre q=>ZW q (T (J (U w)) 0 Z)=Q (Y (Q (T b off Z)) n j_)/\ZW q (T (J (U w)+1) 0 Z)=Q (.int I 0)/\ZX q (T (J (U w)+1) 0 Z)=ZA/\Hid (bm f pre=-1)/\Hid (Below (J (U w)) w q))
  (λc pre q=>c=.ret/\ZW q (T (J (U w)+1) 0 Z)=Q (.int I (bm f pre))/\Hid (bm f pre≠-1)/\Hid (Below (J (U w)) w q))
  (λs ZY B h m=>⟨(m.O (p:=(T (J (U w)) 0 Z)) (by show (J (U w))<J (U W);omega)).k h.1,(m.O (p:=(T (J (U w)+1) 0 Z)) (by show (J (U w))+1<J (U W);omega)).k h.2.1,(m.frozen (p:=(T (J (U w)+1) 0 Z)) (by show (J (U w))+1<J (U W);omega)).k h.2.2.1,h.2.2.2.1,h.2.2.2.2.k (m.P (by omega))⟩)
  (λc s ZY B h m=>⟨h.1,(m.O (p:=(T (J (U w)+1) 0 Z)) (by show (J (U w))+1<J (U W);omega)).k h.2.1,h.2.2.1,h.2.2.2.k (m.P (by omega))⟩)
  ⟨ZP,G,H,rfl,A0⟩
  (λx=>{ tmps:=#[.agg #[Y (Q (T b off Z)) n j_],.pointer (Q (T (J (U w)) 0 Z)),.pointer (Q (T (J (U w)+1) 0 Z)),.int I (x.1:Int),.int I (x.2:Int),.agg #[Y (Q (T b off Z)) n j_],.func (.func 166) #[] #[.pointer (Q (T (J (U w)+1+1) 0 Z))],.int I (x.1:Int),.int I (x.2:Int),undef,undef,undef,undef,undef,undef,undef,undef,undef,undef,undef,undef],defers:=[] }) ?assign ?body ?done ?stop
 case assign =>intro l x W K u;gi_wp2;exact u
 case body =>
  rintro l pre x j X⟨V,o,D,C,i⟩ hlt hz;clear G H ZP;obtain⟨_,p1,_⟩:=(ZN.aa i ly).2 x.1 X;have hx0:(0:Int)<=(x.1:Int):=by omega
  have hxn:(x.1:Int)<n:=by omega
  have M:=ae (xa (x:=x) C);have U1:=ae (Upd.setCell (P:=λk=>J (U w)<=k/\k<J (U W)) j (p:=(T (J (U w)+1) 0 Z)) ⟨by show _<=_+1;omega,by show _+1<_;omega⟩ (.int I (x.1:Int)));have ZR:=ae (i.setCell (p:=(T (J (U w)+1) 0 Z)) (by show _<=_+1;omega) (.int I (x.1:Int)));have O:=ae (BO j (T (J (U w)+1) 0 Z) (.int I (x.1:Int)) (by rw[o];rfl));cases h3:((f x.1).L == 3) with
  |false =>
   have g:Hid (bm f (pre++[x])=-1):=by show _=_;rw[M.i,eI (by intro h;rw[h.1] at h3;simp at h3)]
   gi_wp2;exact⟨Upd.refl _ _,V,o,D,g,i⟩
  |true =>
   by_cases h6:(60:Int)<=(x.2:Int)
   ·have g:Hid (bm f (pre++[x])=(x.1:Int)):=by show _=_;rw[M.i,eT ⟨by simpa using h3,by omega⟩]
    gi_wp2;exact⟨U1,rfl,by rw[g.i];exact O,by show _≠_;rw[g.i];omega,ZR⟩
   ·have g:Hid (bm f (pre++[x])=-1):=by show _=_;rw[M.i,eI (by intro h;omega)]
    gi_wp2;exact⟨Upd.refl _ _,V,o,D,g,i⟩
 case done =>rintro S ys j L rfl⟨_,o,D,C,i⟩ u;have K1:=ae ((KeepsOthers.setCell j (T (J (U w)+1) 0 Z) (.int I (-1))).same S _ u rfl);have ZR:=ae (i.setCell (p:=(T (J (U w)+1) 0 Z)) (by show _<=_+1;omega) (.int I (-1)));have O:=ae (BO j (T (J (U w)+1) 0 Z) (.int I (-1)) (by rw[o];rfl));gi_wp2;refine⟨by simp,.inl ⟨_,_,rfl,run_takeDeferred K1,?_⟩⟩;have y:=dO (n:=J (U W)) (ZU j (T (J (U w)+1) 0 Z) (.int I (-1))) L (CV.1 K1).1 (.deferred Z);have c:=(y.O (p:=(T (J (U w)+1) 0 Z)) (by show (J (U w))+1<J (U W);omega)).k O;exact⟨.int I (-1),by simp[results,results108,go_sem,c],by rw[C.i],ZR.k (y.P (by omega))⟩
 case stop =>rintro S c pre j L ZQ⟨rfl,o,C,i⟩ u;gi_wp2;refine⟨by simp,.inl ⟨_,_,rfl,run_takeDeferred u,?_⟩⟩;have y:=dO (n:=J (U W)) j L (CV.1 u).1 (.deferred Z);have c:=(y.O (p:=(T (J (U w)+1) 0 Z)) (by show (J (U w))+1<J (U W);omega)).k o;exact⟨.int I (bm f pre),by simp[results,results108,go_sem,c],by rw[tL ZQ C.i],i.k (y.P (by omega))⟩
def qp (g:Nat->Bool)(n:Nat):aQ g n=-1\/0<=aQ g n:=by
 induction n with
 |zero=>exact .inl rfl
 |succ k b =>
  rw[aQ];split;{split;{exact .inl rfl};{exact .inr (by omega)}};{exact b}
def Ek (i:Nat)(b:List (Nat × Nat)):bG i b=-1\/0<=bG i b:=by
 induction b generalizing i with
 |nil=>exact .inl rfl
 |cons x b f =>
  rw[bG];split;{exact f _};{exact .inr (by omega)}
def sD (f:Nat->au)(b:List (Nat × Nat)):bm f b=-1\/0<=bm f b:=by
 induction b with
 |nil=>exact .inl rfl
 |cons x b g =>
  rw[bm];split;{exact .inr (by omega)};{exact g}
def pk (h:aQ (bw f) n=-1):∀p,p<n->(f p).f<=200:=by
 intro p b;have h1:=eN h p b;simp only[bw,j6,kindOk] at h1;obtain⟨_,h2⟩:=h1;split at h2;{simp[aY] at h2;omega};{split at h2;{simp[aY] at h2;omega};{split at h2;{simp only[cC,j6,nD] at h2;omega};{cases h2}}}
def El (h:aQ (bw f) n=-1):∀p,p<n->(f p).e.size<=maxLen:=by intro p b;have h1:=eN h p b;simp only[bw,aA,j6,nD] at h1;unfold maxLen;omega
def kI (i:gA f n)(hn:1<=n):(aG f n).length<=n:=by
 have h:=(xN i n (n - 1) 0 (λ_=>ZA) (by omega) (by omega) rfl).num;have h2:=Iz (lst f n (n - 1) 0 (λ_=>ZA)).1 n;have b:∀k,yh (λ_=>ZA) k=0:=by
  intro k;induction k with
  |zero=>rfl
  |succ j g=>rw[yh,g];rfl
 rw[b] at h;unfold aG;omega
structure Jq (w:E)(b:Nat)(v0 v1 v2 v3:ZB):Prop where
 lt:b<J (U w)
 c0:ZW w (T b 0 Z)=Q v0
 c1:ZW w (T b 1 Z)=Q v1
 c2:ZW w (T b 2 Z)=Q v2
 c3:ZW w (T b 3 Z)=Q v3
def G8 (w:E)(h f g b:ZB)(t:ZK):Jq (A w (N #[h,f,g,b] t)) (J (U w)) h f g b:=⟨by simp,by simp,by simp,by simp,by simp⟩
def xd (a:O_)(n j_:Nat)(f:Nat->au)(w:E)(hn:(n:Int)<=1048576)(R:SlDeed w a n f)(M:(n:Int)<=j_)(D:∀i,i<n->cX (f i))(ZL:Tab w):Qw Pg 71 #[.agg #[Y a n j_]] w λe w'=>e=ZI (.tuple #[.int I (dE f n).1,.int I (dE f n).2])/\Below (J (U w)) w w':=by
 have S:=ae R;have HM:=ae D;have ZN:=ae ZL;clear R D ZL;have ZR:=ae ((BS w).alloc ly (N #[Y a n j_] 25));have ZM:ZW (A w (N #[Y a n j_] 25)) (T (J (U w)) 0 Z)=Q (Y a n j_):=by simp
 obtain⟨c1,c2,o⟩:∃c1 c2,dE f n=(c1,c2):=⟨_,_,rfl⟩
 rw[o];have z:=ae o;clear o;by_cases ZP:(n:Int)=0
 ·have g:c1=1/\c2=0:=by have:=z.i;unfold dE at this;rw[eT (.inl (by omega))] at this;simp only[LK] at this;omega
  clear z;obtain⟨g,r⟩:=g;subst g r;obtain rfl:n=0:=by omega
  go_enter func71,ntmps71;go_wp2;go_ret2;exact⟨rfl,ZR⟩
 by_cases h4:(400:Int)<(n:Int)
 ·have g:c1=1/\c2=0:=by have:=z.i;unfold dE at this;rw[eT (.inr (by omega))] at this;simp only[LK] at this;omega
  clear z;obtain⟨g,r⟩:=g;subst g r;have ZO:((n:Int) == 0)=ZA:=by simpa using ZP
  go_enter func71,ntmps71;go_wp2;go_ret2;exact⟨rfl,ZR⟩
 have t:Hid ((if aQ (bw f) n≠-1 then ((2:Int),aQ (bw f) n) else if aQ (λp=>bj f p p) n≠-1 then (3,aQ (λp=>bj f p p) n) else if bG 0 (aG f n)≠-1 then (4,bG 0 (aG f n)) else if bm f (aG f n)≠-1 then (5,bm f (aG f n)) else (0,0))=(c1,c2)):=by have:=z.i;unfold dE at this;rw[eI (by omega)] at this;exact this
 clear z;obtain⟨b,off,rfl,C⟩:=S.resolve_left (by omega);have H:=ae C;have ZO:((n:Int) == 0)=ZA:=by simpa using ZP
 clear S C;have x:(n:Int)<=400:=by omega
 have L:=ae (ZR.alloc (by simp) (N #[.func (.func 105) #[] #[],.func (.func 106) #[] #[],.func (.func 107) #[] #[],.func (.func 108) #[] #[]] 172));go_enter func71,ntmps71;go_wp2;have K:J (U (A w (N #[Y (Q (T b off Z)) n j_] 25)))=J (U w)+1:=by simp
 have q:=ae (G8 (A w (N #[Y (Q (T b off Z)) n j_] 25)) (.func (.func 105) #[] #[]) (.func (.func 106) #[] #[]) (.func (.func 107) #[] #[]) (.func (.func 108) #[] #[]) 172);rw[K] at q;have V:=(((a8 (J (U w)+1) (A w (N #[Y (Q (T b off Z)) n j_] 25))).alloc (by omega) (N #[.func (.func 105) #[] #[],.func (.func 106) #[] #[],.func (.func 107) #[] #[],.func (.func 108) #[] #[]] 172)).O (p:=(T (J (U w)) 0 Z)) (eL _)).k ZM;clear K ZM ZR;generalize World.alloc (World.alloc w _) _=W at L q V ⊢;have s:J (U w)+1<J (U W):=q.lt;go_loopw [21] (λi wr=>∃k:Nat,k<=4/\i=.int I k/\Hid (1<=k->aQ (bw f) n=-1)/\Hid (2<=k->aQ (λp=>bj f p p) n=-1)/\Hid (3<=k->bG 0 (aG f n)=-1)/\Hid (4<=k->bm f (aG f n)=-1)/\Hid (Below (J (U W)) W wr)) (λi _=>4 - (intOf i).toNat);case atStart=>exact⟨0,by omega,rfl,λh=>by omega,λh=>by omega,λh=>by omega,λh=>by omega,a8 _ _⟩
 case round =>
  obtain⟨k,hk,rfl,j,G,ZQ,H4,l⟩:=hrel;have k2:=(l.O (p:=(T (J (U w)) 0 Z)) (by show (J (U w))<_;omega)).k V;have m:=ae (L.k (l.P L.size));by_cases hlt:k<4
  ·rcases(show(True/\k=0)\/(True/\k=1)\/(True/\k=2)\/(True/\k=3) by rcases(show k=0\/k=1\/k=2\/k=3 by omega) with h|h|h|h<;>simp[h]) with⟨M0,rfl⟩|⟨M1,rfl⟩|⟨M2,rfl⟩|⟨M3,rfl⟩
   all_goals
    first
     |(guard_hyp M0;have P:=(l.O (p:=(T (J (U w)+1) 0 Z)) s).k q.c0;have ZY:=ae (tE b off n j_ f _ x (H.aa m ly) M HM (ZN.aa m ZN.1));have B:=ae (qp _ _:aQ (bw f) n=-1\/0<=aQ (bw f) n);obtain⟨X,hX⟩:∃X,X=aQ (bw f) n:=⟨_,rfl⟩)
     |(guard_hyp M1;have P:=(l.O (p:=(T (J (U w)+1) 1 Z)) s).k q.c1;have ZY:=ae (tK b off n j_ f _ x (H.aa m ly) (El (j (by omega))));have B:=ae (qp _ _:aQ (λp=>bj f p p) n=-1\/0<=aQ (λp=>bj f p p) n);obtain⟨X,hX⟩:∃X,X=aQ (λp=>bj f p p) n:=⟨_,rfl⟩)
     |(guard_hyp M2;have P:=(l.O (p:=(T (J (U w)+1) 2 Z)) s).k q.c2;have ZY:=ae (tM b off n j_ f _ (jE (j (by omega))) (by omega) x (H.aa m ly) (pk (j (by omega))) (by have:=kI (jE (j (by omega))) (n:=n) (by omega);omega));have B:=ae (Ek _ _:bG 0 (aG f n)=-1\/0<=bG 0 (aG f n));obtain⟨X,hX⟩:∃X,X=bG 0 (aG f n):=⟨_,rfl⟩)
     |(guard_hyp M3;have P:=(l.O (p:=(T (J (U w)+1) 3 Z)) s).k q.c3;have ZY:=ae (xc b off n j_ f _ (jE (j (by omega))) (by omega) x (H.aa m ly) (pk (j (by omega))));have B:=ae (sD _ _:bm f (aG f n)=-1\/0<=bm f (aG f n));obtain⟨X,hX⟩:∃X,X=bm f (aG f n):=⟨_,rfl⟩)
    rw[<-hX] at ZY B;have ZT:=ae hX;clear hX;go_wp2_with fail;refine ZY.P ?_;rintro e w2⟨rfl,O⟩;have G1:=ae (m.k (O.P m.size));have u:=ae (l.k (O.P l.size));clear O ZY;by_cases y:X=-1
    ·have ZS:=ae (ZT.c.k y)
     have hd:decide (0<=X)=ZA:=by rw[y];rfl
     clear y;go_wp2;first
      |(guard_hyp M0;exact⟨⟨0+1,by omega,by go_num,λ_=>ZS,λh=>by omega,λh=>by omega,λh=>by omega,u⟩,by simp[intOf]⟩)
      |(guard_hyp M1;exact⟨⟨1+1,by omega,by go_num,λ_=>j (by omega),λ_=>ZS,λh=>by omega,λh=>by omega,u⟩,by simp[intOf]⟩)
      |(guard_hyp M2;exact⟨⟨2+1,by omega,by go_num,λ_=>j (by omega),λ_=>G (by omega),λ_=>ZS,λh=>by omega,u⟩,by simp[intOf]⟩)
      |(guard_hyp M3;exact⟨⟨3+1,by omega,by go_num,λ_=>j (by omega),λ_=>G (by omega),λ_=>ZQ (by omega),λ_=>ZS,u⟩,by simp[intOf]⟩)
    ·have g:=t.i
     (try rw[eI (by rw[j.i (by omega)];simp)] at g)
     (try rw[eI (by rw[G.i (by omega)];simp)] at g)
     (try rw[eI (by rw[ZQ.i (by omega)];simp)] at g)
     rw[eT (by rw[<-ZT.i];exact y),<-ZT.i] at g;simp only[LK] at g;have hge:0<=X:=B.resolve_left y;obtain⟨g,r⟩:=g;clear t y B;subst g r;go_wp2;go_ret2;exact⟨rfl,G1⟩
  ·obtain rfl:k=4:=by omega
   have g:c1=0/\c2=0:=by have:=t.i;rw[eI (by rw[j.i (by omega)];simp),eI (by rw[G.i (by omega)];simp),eI (by rw[ZQ.i (by omega)];simp),eI (by rw[H4.i (by omega)];simp)] at this;simp only[LK] at this;omega
   obtain⟨g,r⟩:=g;clear t;subst g r;go_wp2;go_ret2;exact⟨rfl,m⟩
