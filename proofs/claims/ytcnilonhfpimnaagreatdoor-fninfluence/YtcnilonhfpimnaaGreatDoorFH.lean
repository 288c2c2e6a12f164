import Derived.Test.YtcnilonhfpimnaaGreatDoorGY
import Derived.RangeFuncNested
import Derived.RangeFuncBound
import Derived.RangeFuncCalls
import Derived.RangeFuncLeaves
import Derived.Shelf.Abstract
import Derived.Shelf.RegionOpen
import Derived.OwnWalkIn
import Derived.TacticsInMore
import Derived.LoopNIn
import Derived.LoopIn
import Derived.Sort.QuietIn
import Derived.Sort.BigQuietIn
import Derived.Sort.CutIn
import Derived.Maps.OwnSet
import Derived.Maps.Views
import Derived.StringKeys
set_option linter.all false
set_option maxRecDepth 100000
set_option maxHeartbeats 4000000
open Go renaming Addr.mk->T,Value.slice->Z,Obj.cells->N,IntKind.i64->I,World->E,Value->ZB,TypeId->ZK,Ending.returned->ZI,World.heap->U,World.alloc->A,World.cell?->ZV,World.frozen?->ZW,Proofs.Tryz.prog->Pg
open Option renaming none->Y,some->Q
open Bool renaming false->ZA,true->ZH
open Array renaming size->J
open List renaming length->ZU
namespace Go.Proofs.YtcnilonhfpimnaaGreatDoor.Vp
open Tryz RowKit
variable {n l b off j_ n1 L M i m:Nat}{W g:E}{f:Nat->au}{s:Nat->Bool}{pre:List (Nat × Nat)}{ZP:ZK}{P:Program}{R:Ending->E->Prop}{x:Nat × Nat}
def GW{k:Nat}{D:DataW Unit}(b:Maps.IsMap D)(h:∀p,Maps.has D (.string (f p).e.data.toList)=!bj f p k)(d:DataW Unit):∀p,Maps.has (D.put (.string (f k).e.data.toList) d) (.string (f p).e.data.toList)=!bj f p (k+1):=by
 intro p;rw[bj,Bool.not_and,<-h p,Bool.not_not];by_cases e:(f p).e.data.toList=(f k).e.data.toList;{rw[e,Maps.has_put_same b (by simp[WideAt.IsKeyLit])];simp[NM,e]}
 ·rw[YE (by simpa using e)];have:((f k).e.toList == (f p).e.toList)=ZA:=by simpa[NM] using λh=>e (by rw[h])
  rw[this];simp
def tK (b off n j_:Nat)(f:Nat->au)(w:E)(hn:(n:Int)<=400)(R:Qv w b off n f)(M:∀i,i<n->(f i).e.size<=maxLen):Calls Pg 106 #[.agg #[Z (Q (T b off Y)) n j_]] w λe w'=>e=ZI (.int I (aQ (λp=>bj f p p) n))/\Below (J (U w)) w w':=by
 have HF:=ae R;have ZL:=ae M;clear R M;have ZP:=ae (((BS w).alloc ly (N #[Z (Q (T b off Y)) n j_] 25)).alloc (by simp) (.map #[] 0));have C:=ae (YF (A w (N #[Z (Q (T b off Y)) n j_] 25)) Pg 9 (plainElem (H:=Unit) Pg 3));have hz:J (U (A w (N #[Z (Q (T b off Y)) n j_] 25)))=J (U w)+1:=by simp
 rw[hz] at C;clear hz;obtain⟨r,K⟩:∃r,r=aQ (λp=>bj f p p) n:=⟨_,rfl⟩
 rw[<-K];have S:=ae K;clear K;have V:=@run_makeMap Pg;go_enter func106,ntmps106;go_wp2;clear V;generalize World.alloc (World.alloc w _) _=W at ZP C ⊢;obtain⟨o,z⟩:∃o,o=J (U w)+1:=⟨_,rfl⟩
 rw[<-z] at C ⊢;have ZN:=ae z;clear z;go_loopw [12] (λi wr=>∃(k:Nat) (D:DataW Unit),k<=n/\i=.int I k/\Hid (∀j,j<k->bj f j j=ZH)/\Hid (wr.ownsMap Pg 9 (plainElem (H:=Unit) Pg 3) o k D)/\Hid (∀p,Maps.has D (.string (f p).e.data.toList)=!bj f p k)/\Hid (Below (J (U w)) w wr)) (λi _=>n - (intOf i).toNat);case atStart=>exact⟨0,_,by omega,rfl,λj ZO=>absurd ZO (NF _),C,λp=>rfl,ZP⟩
 case round =>
  obtain⟨k,D,hk,rfl,ZR,B,ZQ,l⟩:=hrel;by_cases u:k<n
  ·obtain⟨p0,p1,p2,p3,⟨a0,q,p4,q4⟩,⟨a1,t,p5,X⟩⟩:=(HF.aa l ly).2 k u;clear q4 X;have ZX:=QT (P:=Pg) (k:=9) E4 (ZL k u);have h:=ae ZX;have ZT:=ae (ZQ k);clear ZX;cases hnew:bj f k k with
   |false =>
    have s:Maps.has D (.string (f k).e.data.toList)=ZH:=by rw[ZT.i,hnew];rfl
    have HHS:=ae s;obtain rfl:r=k:=by rw[S.i];exact fQ u hnew ZR
    clear hnew;have ZS:=ae (l.alloc l.size (N #[.string (f k).e,.int I (f k).L,.int I (f k).M,.string (f k).H,Z a0 (f k).h q,Z a1 (f k).f t] 62));go_wp2_with (at_lookup;refine wpList_lookup_own_ok_int _ rfl _ _ 211 rfl 9 3 I (SY E4) YG OH (PX _) o k D rfl (B.alloc _) _ _ rfl h ?_;intro c x y;clear x y);go_ret;exact⟨rfl,ZS⟩
   |true =>
    have s:Maps.has D (.string (f k).e.data.toList)=ZA:=by rw[ZT.i,hnew];rfl
    have L:=ae hnew;clear hnew;have G:(Lit.int I (k:Int)).wf=ZH:=by simp only[Lit.wf,IntKind.min,IntKind.max,IntKind.signed,IntKind.bits,j6,nD,Y2];omega
    have O:=ae G;clear G
    go_wp2_with (first
     |(at_lookup;refine wpList_lookup_own_ok_int _ rfl _ _ 211 rfl 9 3 I (SY E4) YG OH (PX _) o k D rfl (B.alloc _) _ _ rfl h ?_;intro c x y;clear x y)
     |(at_mapUpdate;refine WZ _ rfl _ _ _ 211 rfl 9 3 (SY E4) YG _ o k D rfl (B.alloc _) (by unfold maxLen;omega) _ _ _ rfl rfl h _ [] (plainElem_int OH O) ?_;intro w1 m g;have ZM:=ae m;have ZS:=ae (bg (l.alloc l.size (N #[.string (f k).e,.int I (f k).L,.int I (f k).M,.string (f k).H,Z a0 (f k).h q,Z a1 (f k).f t] 62)) g (by have:=l.size;simp;omega) (λj e=>by cases e;have:=ZN.i;omega));clear m g))
    exact⟨⟨k+1,_,by omega,by go_num,λj ZO=>by
     by_cases e:j=k;{subst e;exact L}
     ·exact ZR j (by omega),ZM,GW B.isMap ZQ _,ZS⟩,by simp[intOf];omega⟩
  ·have e:n=k:=by omega
   subst e;obtain rfl:r=-1:=by rw[S.i];exact ej ZR
   go_wp2;go_ret;exact⟨rfl,l⟩
open Go.Shelf Ca
attribute [local go_sem] Oper.semAt_some
structure LSt (w0 W:E)(n1 b off n j_ L M l:Nat)(s:Nat->Bool):Prop where
 c0:ZV W (T L 0 Y)=Q (Z (Q (T b off Y)) n j_)
 c1:ZV W (T L 1 Y)=Q (Z (Q (T M 0 Y)) n n)
 c2:ZV W (T L 2 Y)=Q (.func (.yield l) #[] #[])
 row:∀q,q<n->ZV W (T M q Y)=Q (.bool (s q))/\ZW W (T M q Y)=ZA
 low:Below (J (U w0)) w0 W
 hL:n1<=L/\L<J (U W)
 hM:n1<=M/\M<J (U W)
 ne:L≠M
 hb:J (U w0)<=n1
 tyM:OfTy W M 4
 tyL:OfTy W L 247
def LSt.blocks{f:E}(h:LSt g W n1 b off n j_ L M l s)(hz:J (U W)<=J (U f))(j:f.heap[L]?=W.heap[L]?)(i:f.heap[M]?=W.heap[M]?)(p:Below (J (U g)) g f):LSt g f n1 b off n j_ L M l s:=by have c:∀o,ZV f (T L o Y)=ZV W (T L o Y):=λo=>cq (a:=(T L o Y)) j;exact⟨(c 0).k h.c0,(c 1).k h.c1,(c 2).k h.c2,λq m=>⟨(cq (a:=(T M q Y)) i).k (h.row q m).1,(NG (a:=(T M q Y)) i).k (h.row q m).2⟩,p,⟨h.hL.1,lj h.hL.2 hz⟩,⟨h.hM.1,lj h.hM.2 hz⟩,h.ne,h.hb,h.tyM.eq i,h.tyL.eq j⟩
def LSt.aa{f:E}(h:LSt f W n1 b off n j_ L M l s)(hb:Below (J (U W)) W g):LSt f g n1 b off n j_ L M l s:=
 h.blocks hb.size (hb.p L h.hL.2) (hb.p M h.hM.2) (h.low.k (hb.P h.low.size))
def LSt.upd{i:E}(j:ZP≠4/\ZP≠247)(h:LSt g W n1 b off n j_ L M l s)(f:Upd2 ZP (J (U g)) n1 W i):LSt g i n1 b off n j_ L M l s:=
 h.blocks f.size (f.p L h.hL.2 (.inr ⟨h.hL.1,h.tyL.ne j.2⟩)) (f.p M h.hM.2 (.inr ⟨h.hM.1,h.tyM.ne j.1⟩)) (h.low.k (f.aa h.low.size))
def LSt.set{p:Nat}(h:LSt g W n1 b off n j_ L M l s)(hp:p<n):LSt g (W.setCell (T M p Y) (.bool ZH)) n1 b off n j_ L M l (put s p):=by
 have c:∀o,(W.setCell (T M p Y) (.bool ZH)).cell? (T L o Y)=ZV W (T L o Y):=λo=>sq _ _ _ _ (by simp;exact λe=>absurd e.c h.ne);refine⟨(c 0).k h.c0,(c 1).k h.c1,(c 2).k h.c2,λq f=>⟨?_,by simpa using(h.row q f).2⟩,h.low.setCell (by have:=h.hM.1;have:=h.hb;show _<=M;omega) _,by simpa using h.hL,by simpa using h.hM,h.ne,h.hb,h.tyM.set _ _,h.tyL.set _ _⟩;by_cases e:q=p;{subst e;rw[BO _ _ _ (by rw[(h.row q f).1];rfl)];simp[put]};{rw[sq _ _ _ _ (by simp),(h.row q f).1];simp[put,e]}
def qi{go:Nat->Nat->(Nat->Bool)->(Nat->Bool) × List (Nat × Nat)}{x:au}{d:Nat}(h:i<=m):(lks go x d s i).2 <+: (lks go x d s m).2:=by
 induction m with
 |zero =>
  obtain rfl:i=0:=by omega
  exact XH
 |succ k b =>
  by_cases e:i=k+1;{subst e;exact XH};{refine(b (by omega)).k ?_;rw[lks];split;{exact YH _ _};{exact XH}}
def GY (hT:ZP≠4/\ZP≠247)(P:E)(n1 b off n j_ L M l:Nat)(H:List (Nat × Nat))(f:Nat->au)(ZR Jx:List (Nat × Nat)->E->Prop)(hA:gA f n)(hn:(n:Int)<=400)(hf:Qv P b off n f)(hlk:∀p,p<n->(f p).f<=200)
  (hJ:∀s ZX C,ZR s ZX->Itr 4 n1 ZX C->ZR s C) (qr:∀s ZX C,Jx s ZX->Itr 4 n1 ZX C->Jx s C)
  (hY:∀m pre (x:Nat × Nat) W,x.1<n->ZR pre W->pre++[x] <+: H->n1<=J (U W)->YieldAt Fence.wide m Pg l #[.int I (x.1:Int),.int I (x.2:Int)] W λe u =>
   (e=ZI (.bool ZH)/\ZR (pre++[x]) u/\Upd2 ZP (J (U P)) n1 W u)\/(e=ZI (.bool ZA)/\Jx (pre++[x]) u)) :
  ∀(k p d:Nat) (s:Nat->Bool) (pre:List (Nat × Nat)) (W:E) (ZS:Nat),p<k->p<n->d+p<=1000->LSt P W n1 b off n j_ L M l s->s p=ZA->ZR pre W->pre++(lst f k p d s).2 <+: H ->
   CallsIn Fence.wide ZS Pg 167 #[.pointer (Q (T L 0 Y)),.int I (p:Int),.int I (d:Int)] W λe u =>(e=ZI (.bool ZH)/\ZR (pre++(lst f k p d s).2) u/\LSt P u n1 b off n j_ L M l (lst f k p d s).1)\/(e=ZI (.bool ZA)/\∃q,q <+: (lst f k p d s).2/\Jx (pre++q) u):=by
 intro k;induction k with
 |zero=>intro p d s pre W ZS h;omega
 |succ k ih =>
  intro p d s pre W ZS hpk G hdp hS hs ro hN;have HS:=ae hS;have DE:=ae ro;have HN:=ae hN;have At:=ae ih;have HY:=ae hY;have HJ:=ae hJ;have HJx:=ae qr;have HA:=ae hA;have HF:=ae hf;obtain⟨_,_,_,_,_,⟨a1,cap1,ph,q5⟩⟩:=hf.2 p G;have p5:=(hS.low.O (p:=(T b (off+p*6+5) Y)) hf.1).k ph;obtain⟨m,V⟩:∃m,m=(f p).f:=⟨_,rfl⟩
  have hm2:m<=200:=by rw[V];exact hlk p G
  rw[<-V] at p5 q5;have HL:=ae q5;have HM:=ae V;have e0:=hS.c0;obtain⟨K,hK⟩:∃K,K=lks (lst f k) (f p) d s:=⟨_,rfl⟩
  have ZQ:Hid (lst f (k+1) p d s=(put (K m).1 p,(K m).2++[(p,d)])):=by rw[hK,V];rfl
  have la:Hid (K 0=(s,[])):=by rw[hK];rfl
  have Fd:Hid (∀j,K (j+1)=if ((f p).m j).ask=ZH/\(K j).1 ((f p).m j).G.toNat=ZA then ((lst f k ((f p).m j).G.toNat (d+1) (K j).1).1,(K j).2++(lst f k ((f p).m j).G.toNat (d+1) (K j).1).2) else K j):=λj=>by rw[hK];rfl
  have Bk:Hid (∀i,i<=m->(K i).2 <+: (K m).2):=λi hi=>by rw[hK];exact qi hi
  clear hS ro hN ih hY hJ qr hA hf q5 V hlk ph hK;refine YX func167 rfl trivial ?_ rfl;simp only[ntmps167,QG,vF,IT,Nat.reduceAdd,Nat.reduceSub,QY,QZ,SZ,RF,NS,PC];gi_wp2;clear e0 p5;gi_loopw [18] (λi wr=>∃j:Nat,j<=m/\i=.int I j/\Hid (LSt P wr n1 b off n j_ L M l (K j).1)/\Hid (ZR (pre++(K j).2) wr)) (λi _=>m - (intOf i).toNat);case atStart=>exact⟨0,by omega,rfl,by rw[la.i];exact HS,by rw[la.i,XI];exact DE⟩
  case round =>
   obtain⟨j,hj,rfl,g,n8⟩:=hrel;by_cases Fm:j<m
   ·obtain⟨lb,lo,rfl,bt⟩:=(HL.aa g.low ly).resolve_left (by omega);obtain⟨d0,d1,d2,d3⟩:=bt.2 j Fm;clear bt;have aq:=Fd.i j;have ex:=HA.i p G j (by have:=HM.i;omega);generalize (f p).m j=x at d0 d1 d2 d3 aq ex;have R:=ae aq;clear aq;have ZT:=ae (g.aa (br.alloc ly (N #[.string x.e,.bool x.ask,.bool x.has,.int I x.G] 65)));have ZL:=ae (HJ _ _ _ n8 (Itr.l ((BS wr).alloc ly (N #[.string x.e,.bool x.ask,.bool x.has,.int I x.G] 65)) ly (by have:=g.hL;omega)));have e1:ZV (A wr (N #[.string x.e,.bool x.ask,.bool x.has,.int I x.G] 65)) (T (J (U wr)) 1 Y)=Q (.bool x.ask):=by simp
    have e3:ZV (A wr (N #[.string x.e,.bool x.ask,.bool x.has,.int I x.G] 65)) (T (J (U wr)) 3 Y)=Q (.int I x.G):=by simp
    have th:=ae ex;clear ex;gi_upto_region 4 with fail;clear d0 d1 d2 d3;generalize World.alloc wr _=B at ZT ZL e1 e3 ⊢;generalize (J (U wr))=X at e1 e3 ⊢;cases hask:x.ask with
    |false =>
     have o:K (j+1)=K j:=by rw[R.i,eI (by rw[hask];simp)]
     have t:=ae o;clear o;rw[hask] at e1;have Hx:∀f,Fence.wide.fn f=True:=λ_=>rfl;gi_quiet (fail);have ZO:=ae (ZT.aa (AD (BS B) nq));have J2:=ae (HJ _ _ _ ZL (Itr.l (AD (BS B) nq) ly (by have:=ZT.hL;omega)));gi_wp2;exact⟨⟨j+1,by omega,by go_num,by rw[t.i];exact ZO,by rw[t.i];exact J2⟩,by simp[intOf];omega⟩
    |true =>
     obtain⟨q,ZM⟩:∃q:Nat,x.G=(q:Int):=⟨x.G.toNat,by have:=(th hask).2;omega⟩
     have hqp:q<p:=by have:=(th hask).1;rw[ZM] at this;simpa using this
     rw[ZM] at e3;rw[hask] at e1;have f1:=ZT.c1;obtain⟨f2,_⟩:=ZT.row q (by omega);have hq0:(0:Int)<=q:=by omega
     have hqn:(q:Int)<n:=by omega
     have Hx:∀f,Fence.wide.fn f=True:=λ_=>rfl;cases hl:(K j).1 q with
     |true =>
      have o:K (j+1)=K j:=by rw[R.i,eI (by rw[ZM];simp[hl])]
      have t:=ae o;clear o;rw[hl] at f2;gi_quiet (fail);have ZO:=ae (ZT.aa (AD (BS B) nq));have J2:=ae (HJ _ _ _ ZL (Itr.l (AD (BS B) nq) ly (by have:=ZT.hL;omega)));gi_wp2;exact⟨⟨j+1,by omega,by go_num,by rw[t.i];exact ZO,by rw[t.i];exact J2⟩,by simp[intOf];omega⟩
     |false =>
      have o:K (j+1)=((lst f k q (d+1) (K j).1).1,(K j).2++(lst f k q (d+1) (K j).1).2):=by rw[R.i,eT ⟨hask,by rw[ZM];simpa using hl⟩,ZM];simp
      have t:=ae o;have ZN:=Bk.i (j+1) (by omega);rw[o] at ZN;have mv:=ae ZN;have fd:((d+1:Nat):Int)=(d:Int)+1:=by omega
      have HC:Hid (∀W2 ZS,LSt P W2 n1 b off n j_ L M l (K j).1->ZR (pre++(K j).2) W2->CallsIn Fence.wide ZS Pg 167 #[.pointer (Q (T L 0 Y)),.int I (q:Int),.int I ((d:Int)+1)] W2 λe u =>
        ∃r:Bool,e=ZI (.bool r)/\Hid ((r=ZH/\ZR (pre++(K (j+1)).2) u/\LSt P u n1 b off n j_ L M l (K (j+1)).1)\/(r=ZA/\∃q,q <+: (K m).2++[(p,d)]/\Jx (pre++q) u))):=by
       intro W2 ZS h1 h2;have O:(pre++(K j).2)++(lst f k q (d+1) (K j).1).2 <+: H:=by have D:=HN.i;rw[ZQ.i] at D;obtain⟨z,hz⟩:=D;obtain⟨y,S⟩:=mv.i;exact⟨y++[(p,d)]++z,by rw[<-hz];simp only[];rw[<-S];simp⟩
       have h:=At.i q (d+1) (K j).1 (pre++(K j).2) W2 ZS (by omega) (by omega) (by omega) h1 hl h2 O;rw[fd] at h;refine h.P λe u h=>?_;rcases h with⟨he,hj,hs⟩|⟨he,q',GS,hx⟩
       ·exact⟨ZH,he,.inl ⟨rfl,by rw[t.i,<-NQ];exact hj,by rw[t.i];exact hs⟩⟩
       ·refine⟨ZA,he,.inr ⟨rfl,(K j).2++q',?_,by rw[<-NQ];exact hx⟩⟩
        obtain⟨z,hz⟩:=GS;obtain⟨y,S⟩:=mv.i;exact⟨z++y++[(p,d)],by rw[<-S,<-hz];simp⟩
      have Fk:=ae (ZT.aa ((BS B).drew));have DQ:=ae (HJ _ _ _ ZL (Itr.l (BS B).drew ly (by have:=ZT.hL;omega)));have hwr:IntKind.i64.wrap ((d:Int)+1)=(d:Int)+1:=by rw[nL];omega
      clear o ZN;rw[hl] at f2;gi_region_with ((try refine⟨λh=>(by cases h),?_⟩);gi_at_call 167;refine(HC _ _ ?_ ?_).P ?_;(first|exact Fk|exact ZT);(first|exact DQ|exact ZL);rintro e W3⟨r,rfl,H3⟩);all_goals
       cases r with
       |true =>have D:=H3.resolve_right (λh=>by cases h.1);have S3:=ae D.2.2;have J3:=ae D.2.1;clear D H3;gi_wp2;exact⟨⟨j+1,by omega,by go_num,S3,J3⟩,by simp[intOf];omega⟩
       |false =>have D:=H3.resolve_left (λh=>by cases h.1);have X3:=ae D.2;clear D H3;gi_wp2;go_ret;rw[ZQ.i];exact .inr ⟨rfl,X3⟩
   ·have e:m=j:=by omega
    subst e;have ZO:=ae (g.set G);have J2:=ae (HJ _ _ _ n8 (Itr.setCell wr (p:=(T M p Y)) g.hM.1 g.tyM (.bool ZH)));have O:(pre++(K m).2)++[(p,d)] <+: H:=by have D:=HN.i;rw[ZQ.i] at D;simpa using D
    have ur:=HY.i (ZS - 1) (pre++(K m).2) (p,d) _ G J2 O (by have:=g.hL;simp;omega);obtain⟨fn,tmps,assign,body,S,hR⟩:=ur;dsimp only at S;have HR:=ae hR;clear hR;have g1:=g.c1;obtain⟨g3,g4⟩:=g.row p G;have g2:=ZO.c2;have hp0:(0:Int)<=p:=by omega
    have hpn':(p:Int)<n:=by omega
    gi_wp2;refine⟨λh=>(by cases h),HR.P ?_⟩;rintro e W3 (⟨rfl,n9,ld⟩|⟨rfl,sm⟩);{have J3:=ae n9;have S3:=ae (ZO.upd hT ld);clear n9 ld;gi_wp2;go_ret;rw[ZQ.i];exact .inl ⟨rfl,by rw[<-NQ];exact J3,S3⟩};{have X3:=ae sm;clear sm;gi_wp2;go_ret;rw[ZQ.i];exact .inr ⟨rfl,_,XH,by rw[<-NQ];exact X3⟩}
attribute [local go_sem] Oper.semAt_some
def Ef{F:Fence}(b:F.depth=Y){f:FuncId}{tmps:Array ZB}{assign body:Code}{w:E}
  (h:RoundIn F m P l f tmps assign body w R):RoundIn F i P l f tmps assign body w R:=⟨h.1,λc g _=>h.2 c g (λd h=>by rw[b] at h;cases h)⟩
def Eg{F:Fence}(f:F.depth=Y)(g:Nat){args:Array ZB}(h:YieldAt F m P l args W R):YieldAt F g P l args W R:=by obtain⟨fn,tmps,assign,body,b,hR⟩:=h;exact⟨fn,tmps,assign,body,b,Ef f hR⟩
def Eh:(Pg.info? 4).map (λi=>(i.zero,i.size,i.bytes))=Q (Q (.bool ZA),1,1):=by kernel_rfl
def bH (n:Nat):Array ZB:=madeCells (Value.bool ZA).cells n
def Bb (n:Nat)(hn:n<=1048576)(w:E):(Instr.makeSlice 166 (.int I (n:Int)) (.int I (n:Int))).run Pg w=.ok (Z (Q (T (J (U w)) 0 Y)) n n) (w.alloc (N (bH n) 4)):=by obtain⟨i,hi,hz⟩:=RH.1 Eh;simp only[LK] at hz;obtain⟨h1,h2,b⟩:=hz;have h:=run_make (P:=Pg) w 166 4 i _ underlying166 hi h1 I I n n (by omega) (YR _) (by rw[b];omega) (by omega);rw[h2] at h;simpa[bH] using h
def ux (n q:Nat)(h:q<n):(bH n)[q]?=Q (.bool ZA):=by unfold bH madeCells;simp[Value.cells,h,Nat.mod_one]
def qj (W:E)(n q:Nat)(h:q<n):(W.alloc (N (bH n) 4)).cell? (T (J (U W)) q Y)=Q (.bool ZA)/\(W.alloc (N (bH n) 4)).frozen? (T (J (U W)) q Y)=ZA:=by
 have e:=gM W (N (bH n) 4);refine⟨?_,?_⟩;{rw[cell_of_row _ _ _ _ _ _ e];exact ux n q h};{unfold World.frozen?;rw[e];simp}
def Ei (f:Below (J (U g)) g W):LSt g ((W.alloc (N (bH n) 4)).alloc (N #[Z (Q (T b off Y)) n j_,Z (Q (T (J (U W)) 0 Y)) n n,.func (.yield l) #[] #[]] 247)).drew (J (U W)) b off n j_ (J (U W)+1) (J (U W)) l (λ_=>ZA):=by
 have hz:(W.alloc (N (bH n) 4)).heap.size=J (U W)+1:=by simp
 have D:Below (J (U W)+1) (W.alloc (N (bH n) 4)) ((W.alloc (N (bH n) 4)).alloc (N #[Z (Q (T b off Y)) n j_,Z (Q (T (J (U W)) 0 Y)) n n,.func (.yield l) #[] #[]] 247)).drew:=(br.alloc (by omega) _).drew;refine⟨?_,?_,?_,λq i=>?_,((f.alloc f.size _).alloc (by simp;have:=f.size;omega) _).drew,by simp,by simp;omega,by omega,f.size,?_,?_⟩;{simp};{simp};{simp};{exact⟨(D.O (p:=(T (J (U W)) q Y)) (eL _)).k (qj W n q i).1,(D.frozen (p:=(T (J (U W)) q Y)) (eL _)).k (qj W n q i).2⟩};{exact(OfTy.new W _ _).eq (D.p _ (eL _))};{have h:=OfTy.new (W.alloc (N (bH n) 4)) #[Z (Q (T b off Y)) n j_,Z (Q (T (J (U W)) 0 Y)) n n,.func (.yield l) #[] #[]] 247;rw[hz] at h;exact h.eq rfl}
def Ej (f:Below (J (U g)) g W):LSt g ((A W (N #[Z (Q (T b off Y)) n j_,Z (Q (T (J (U W)+1) 0 Y)) n n,.func (.yield l) #[] #[]] 247)).alloc (N (bH n) 4)).drew (J (U W)) b off n j_ (J (U W)) (J (U W)+1) l (λ_=>ZA):=by
 have hz:J (U (A W (N #[Z (Q (T b off Y)) n j_,Z (Q (T (J (U W)+1) 0 Y)) n n,.func (.yield l) #[] #[]] 247)))=J (U W)+1:=by simp
 have D:Below (J (U W)+1) (A W (N #[Z (Q (T b off Y)) n j_,Z (Q (T (J (U W)+1) 0 Y)) n n,.func (.yield l) #[] #[]] 247)) ((A W (N #[Z (Q (T b off Y)) n j_,Z (Q (T (J (U W)+1) 0 Y)) n n,.func (.yield l) #[] #[]] 247)).alloc (N (bH n) 4)).drew:=(br.alloc (by omega) _).drew;refine⟨(D.O (p:=(T (J (U W)) 0 Y)) (eL _)).k (by simp),(D.O (p:=(T (J (U W)) 1 Y)) (eL _)).k (by simp),(D.O (p:=(T (J (U W)) 2 Y)) (eL _)).k (by simp),λq i=>?_,((f.alloc f.size _).alloc (by simp;have:=f.size;omega) _).drew,by simp;omega,by simp,by omega,f.size,?_,?_⟩;{have h:=qj (A W (N #[Z (Q (T b off Y)) n j_,Z (Q (T (J (U W)+1) 0 Y)) n n,.func (.yield l) #[] #[]] 247)) n q i;rw[hz] at h;exact h};{have h:=OfTy.new (A W (N #[Z (Q (T b off Y)) n j_,Z (Q (T (J (U W)+1) 0 Y)) n n,.func (.yield l) #[] #[]] 247)) (bH n) 4;rw[hz] at h;exact h.eq rfl};{exact(OfTy.new W _ _).eq (D.p _ (eL _))}
def qk (v:ZB)(w:E)(f:Nat):CallsIn Fence.wide f Pg 146 #[.agg #[v]] w λe b=>e=ZI (.func (.func 166) #[] #[.pointer (Q (T (J (U w)) 0 Y))])/\b=A w (N #[v] 25):=by refine YX func146 rfl trivial ?_ rfl;simp only[ntmps146,QG,vF,IT,Nat.reduceAdd,Nat.reduceSub,QY,QZ,SZ,RF,NS,PC];gi_wp2;go_ret;exact⟨rfl,rfl⟩
def uy (hT:ZP≠4/\ZP≠247)(j:E)(b off n j_ t C:Nat)(f:Nat->au)(w:E)(S:gA f n)(hn1:1<=n)(hn:(n:Int)<=400)(ZM:Qv j b off n f)(hlk:∀p,p<n->(f p).f<=200)(o:Below (J (U j)) j w)(ZT:ZV w (T t 0 Y)=Q (Z (Q (T b off Y)) n j_))(z:t<J (U w)):SeqT2 ZP 4 Fence.wide C Pg 166 #[.pointer (Q (T t 0 Y))] (λx:Nat × Nat=>#[Value.int I (x.1:Int),Value.int I (x.2:Int)]) (λpre x=>x.1<n/\pre++[x] <+: aG f n) (J (U j)) (λg=>g=aG f n) (λpre=>pre <+: aG f n) w:=by
 intro l ZR R W B hJ ZS V ZX;have hl:=GY hT j (J (U W)) b off n j_;have K:=ae hl;clear hl;have hB:=(B.O (p:=(T t 0 Y)) z).k ZT;have ex:=λw=>Bb n (by omega) w;have hwb:IntKind.i64.wrap ((n:Int) - 1)=(n:Int) - 1:=by rw[nL];omega
 have P:=ae hJ;have G:=ae ZS;have ZN:=ae V;have H0:=ae ZX;have HA:=ae S;have HF:=ae ZM;have D:=ae hlk;have i:=ae (o.k (B.P o.size));have aq:t<J (U W):=lj z B.size;clear hJ ZS V ZX S ZM hlk o B ZT z;refine YX func166 rfl trivial ?_ rfl;simp only[ntmps166,QG,vF,IT,Nat.reduceAdd,Nat.reduceSub,QY,QZ,SZ,RF,NS,PC];have H:∀L M y,LSt j y (J (U W)) b off n j_ L M l (λ_=>ZA)->Below (J (U W)) W y->CallsIn Fence.wide (C - 1) Pg 167 #[.pointer (Q (T L 0 Y)),.int I ((n:Int) - 1),.int I 0] y λe s =>
   ∃r:Bool,e=ZI (.bool r)/\Hid ((∃g,g=aG f n/\ZR g s)\/(∃pre,pre <+: aG f n/\R pre s)):=by
  intro L M y ZO bt;have h:=K.i L M l (aG f n) f ZR R HA hn HF D P G (λm pre x W1 ZX h1 h2 h3=>Eg rfl m (ZN pre x W1 ⟨ZX,h2⟩ h1 h3)) n (n - 1) 0 (λ_=>ZA) [] y (C - 1) (by omega) (by omega) (by omega) ZO rfl (P _ _ _ H0 (Itr.l bt ly  ly)) (by simp[aG]);rw[show((n - 1:Nat):Int)=(n:Int) - 1 by omega] at h;refine h.P λe s h=>?_;rcases h with⟨O,hj,_⟩|⟨O,q,hq,hx⟩
  ·exact⟨ZH,O,.inl ⟨_,rfl,by simpa[aG] using hj⟩⟩
  ·exact⟨ZA,O,.inr ⟨q,hq,by simpa using hx⟩⟩
 have u:=ae H;have X:=ae (((BS W).alloc ly (N (bH n) 4)).alloc (by simp) (N #[Z (Q (T b off Y)) n j_,Z (Q (T (J (U W)) 0 Y)) n n,.func (.yield l) #[] #[]] 247)).drew;have ZL:=ae (((BS W).alloc ly (N #[Z (Q (T b off Y)) n j_,Z (Q (T (J (U W)+1) 0 Y)) n n,.func (.yield l) #[] #[]] 247)).alloc (by simp) (N (bH n) 4)).drew;have hfw:∀f,Fence.wide.fn f=True:=λ_=>rfl;clear H K P G ZN H0 HA HF D;gi_upto_region 0 with fail;gi_cut [3] from 4 (λs3 wx=>∃L,s3=.pointer (Q (T L 0 Y))/\Hid (∃M,LSt j wx (J (U W)) b off n j_ L M l (λ_=>ZA))/\Hid (Below (J (U W)) W wx));case first =>
  have hsf:=λ(w:E) (a:Addr) (m:Mode)=>run_store Pg w a (.func (.yield l) #[] #[]) m rfl;gi_region_with fail;all_goals
   gi_wp2_with fail;gi_meet;first
    |exact⟨J (U W)+1,rfl,⟨J (U W),Ei i⟩,X⟩
    |exact⟨J (U W),rfl,⟨J (U W)+1,Ej i⟩,ZL⟩
 case rest =>
 obtain⟨L,rfl,HS,ZQ⟩:=hcut;have hB1:=(ZQ.O (p:=(T t 0 Y)) aq).k hB;have HC:Hid (CallsIn Fence.wide (C - 1) Pg 167 #[.pointer (Q (T L 0 Y)),.int I ((n:Int) - 1),.int I 0] wc λe s=>∃r:Bool,e=ZI (.bool r)/\Hid ((∃g,g=aG f n/\ZR g s)\/(∃pre,pre <+: aG f n/\R pre s))):=by obtain⟨M,ZO⟩:=HS.i;exact u L M wc ZO ZQ
 clear u HS ex ZQ i X ZL hB;gi_wp2_with ((try refine⟨λh=>(by cases h),?_⟩);gi_at_call 167;refine HC.P ?_;rintro e W3⟨r,rfl,H3⟩);go_end0;exact⟨⟨_,rfl⟩,H3⟩
def oM (g:E)(b off n j_ i m:Nat)(f:Nat->au)(w:E)(s:gA f n)(hn1:1<=n)(hn:(n:Int)<=400)(q:Qv g b off n f)(hlk:∀p,p<n->(f p).f<=200)(j:Below (J (U g)) g w)(o:ZV w (T i 0 Y)=Q (Z (Q (T b off Y)) n j_))(l:i<J (U w)):DX Fence.wide m Pg 166 #[.pointer (Q (T i 0 Y))] (λx:Nat × Nat=>#[Value.int I (x.1:Int),Value.int I (x.2:Int)]) (λx=>x.1<n) (J (U g)) (λr=>r=aG f n) (λpre=>pre <+: aG f n) (aG f n).length w:=
 (uy (ZP:=62) ⟨by decide,by decide⟩ g b off n j_ i m f w s hn1 hn q hlk j o l).plain λpre x h=>⟨h.1,by have:=h.2.length_le;simp at this;omega⟩
attribute [local go_sem] Oper.semAt_some
def qn (h:bG i pre=-1):bG i (pre++[x])=if x.1=i+ZU pre then -1 else ((i+ZU pre:Nat):Int):=by
 induction pre generalizing i with
 |nil=>simp[bG]
 |cons y b f =>
  simp only[bG,PC] at h ⊢;split at h
  ·rename_i e;rw[eT e,f h];simp only[vF];have:i+1+ZU b=i+(ZU b+1):=by omega
   rw[this]
  {omega}
def uA{b:List (Nat × Nat)}(g:pre <+: b)(h:bG i pre≠-1):bG i b=bG i pre:=by
 induction pre generalizing i b with
 |nil=>exact absurd rfl h
 |cons y ys f =>
  obtain⟨t,rfl⟩:=g;simp only[bG,PC] at h ⊢;split;{rename_i e;rw[eT e] at h;exact f (YH _ _) h};{rfl}
def xa (h:bm f pre=-1):bm f (pre++[x])=if (f x.1).L=3/\60<=x.2 then (x.1:Int) else -1:=by
 induction pre with
 |nil=>simp[bm]
 |cons y ys b =>
  simp only[bm,PC] at h ⊢;split at h;{omega};{rename_i e;rw[eI e,b h]}
def tL{b:List (Nat × Nat)}(i:pre <+: b)(h:bm f pre≠-1):bm f b=bm f pre:=by
 induction pre generalizing b with
 |nil=>exact absurd rfl h
 |cons y ys g =>
  obtain⟨t,rfl⟩:=i;simp only[bm,PC] at h ⊢;split;{rfl};{rename_i e;rw[eI e] at h;exact g (YH _ _) h}
structure Jo (W:E)(h:Nat)(v:ZB):Prop where
 size:J (U W)=h+4
 r:ZV W (T (h+1) 0 Y)=Q (.int I 0)/\ZW W (T (h+1) 0 Y)=ZA
 t:ZV W (T (h+1+1) 0 Y)=Q (.int I 0)/\ZW W (T (h+1+1) 0 Y)=ZA
 a:ZV W (T (h+1+1+1) 0 Y)=Q v
 a0:ZV W (T h 0 Y)=Q v
def zk (w:E)(v:ZB)(t u:ZK):Jo (A (A (A (A w (N #[v] t)) (N #[.int I 0] u)) (N #[.int I 0] u)) (N #[v] t)) (J (U w)) v:=by
 have f:J (U (A w (N #[v] t)))=J (U w)+1:=by simp
 have b:J (U (A (A w (N #[v] t)) (N #[.int I 0] u)))=J (U w)+1+1:=by simp
 have g:J (U (A (A (A w (N #[v] t)) (N #[.int I 0] u)) (N #[.int I 0] u)))=J (U w)+1+1+1:=by simp
 have j:Below (J (U w)+1) (A w (N #[v] t)) (A (A (A (A w (N #[v] t)) (N #[.int I 0] u)) (N #[.int I 0] u)) (N #[v] t)):=((br.alloc (by omega) _).alloc (by omega) _).alloc (by omega) _;have h:Below (J (U w)+1+1) (A (A w (N #[v] t)) (N #[.int I 0] u)) (A (A (A (A w (N #[v] t)) (N #[.int I 0] u)) (N #[.int I 0] u)) (N #[v] t)):=(br.alloc (by omega) _).alloc (by omega) _;have i:Below (J (U w)+1+1+1) (A (A (A w (N #[v] t)) (N #[.int I 0] u)) (N #[.int I 0] u)) (A (A (A (A w (N #[v] t)) (N #[.int I 0] u)) (N #[.int I 0] u)) (N #[v] t)):=br.alloc (by omega) _;refine⟨by simp,⟨?_,?_⟩,⟨?_,?_⟩,?_,(j.O (p:=(T (J (U w)) 0 Y)) (eL _)).k (by simp)⟩;{refine(h.O (p:=(T (J (U w)+1) 0 Y)) (eL _)).k ?_;rw[<-f];clear j h i f b g;generalize A w (N #[v] t)=W;simp};{refine(h.frozen (p:=(T (J (U w)+1) 0 Y)) (eL _)).k ?_;rw[<-f];clear j h i f b g;generalize A w (N #[v] t)=W;simp};{refine(i.O (p:=(T (J (U w)+1+1) 0 Y)) (eL _)).k ?_;rw[<-b];clear j h i f b g;generalize A (A w (N #[v] t)) (N #[.int I 0] u)=W;simp};{refine(i.frozen (p:=(T (J (U w)+1+1) 0 Y)) (eL _)).k ?_;rw[<-b];clear j h i f b g;generalize A (A w (N #[v] t)) (N #[.int I 0] u)=W;simp};{rw[<-g];clear j h i f b g;generalize A (A (A w (N #[v] t)) (N #[.int I 0] u)) (N #[.int I 0] u)=W;simp}
def tM (b off n j_:Nat)(f:Nat->au)(w:E)(ZN:gA f n)(hn1:1<=n)(hn:(n:Int)<=400)(H:Qv w b off n f)(hlk:∀p,p<n->(f p).f<=200)(hlen:(aG f n).length<=400):Calls Pg 107 #[.agg #[Z (Q (T b off Y)) n j_]] w λe X=>e=ZI (.int I (bG 0 (aG f n)))/\Below (J (U w)) w X:=by
 refine(XU (n:=3)).1 ?_;have HF:=ae H;have HA:=ae ZN;have V:=ae hlk;clear H ZN hlk;have M:=((((BS w).alloc ly (N #[Z (Q (T b off Y)) n j_] 25)).alloc (by simp) (N #[.int I 0] 3)).alloc (by simp;omega) (N #[.int I 0] 3)).alloc (by simp;omega) (N #[Z (Q (T b off Y)) n j_] 25);have S:=ae M;clear M;have ZT:=ae (zk w (Z (Q (T b off Y)) n j_) 25 3);refine callsIn_of_wp_marks func107 rfl trivial ?_ rfl;simp only[ntmps107,QG,vF,IT,Nat.reduceAdd,Nat.reduceSub,QY,QZ,SZ,RF,NS,PC];gi_wp2_with (refine⟨trivial,?_⟩;gi_at_call 146;refine(qk _ _ _).P ?_;rintro e X⟨rfl,rfl⟩);generalize World.alloc (World.alloc (World.alloc (World.alloc w _) _) _) _=W at S ZT ⊢;have hsz:=ZT.size;obtain⟨ZQ,ZR⟩:=ZT.r;obtain⟨ZS,O⟩:=ZT.t;refine jI (F:=Fence.wide) rfl (by omega) (gf:=166) (lb:=#[.pointer (Q (T (J (U w)+1+1+1) 0 Y))]) rfl trivial (enters_of func166 (by kernel_rfl) rfl) (base:=J (U w)) (by omega)
  (oM w b off n j_ (J (U w)+1+1+1) (3 - 1) f W HA hn1 hn HF V S ZT.a (by omega)) br (λ_=>rfl)
  (λpre j=>ZV j (T (J (U w)+1+1) 0 Y)=Q (.int I (ZU pre:Int))/\ZW j (T (J (U w)+1+1) 0 Y)=ZA/\ZV j (T (J (U w)+1) 0 Y)=Q (.int I 0)/\ZW j (T (J (U w)+1) 0 Y)=ZA/\Hid (bG 0 pre=-1)/\Hid (Below (J (U w)) w j))
  (λc pre j=>c=.ret/\ZV j (T (J (U w)+1) 0 Y)=Q (.int I (bG 0 pre))/\Hid (bG 0 pre≠-1)/\Hid (Below (J (U w)) w j))
  (λs ZX B h i=>⟨(i.O (p:=(T (J (U w)+1+1) 0 Y)) (by show (J (U w))+1+1<J (U W);omega)).k h.1,(i.frozen (p:=(T (J (U w)+1+1) 0 Y)) (by show (J (U w))+1+1<J (U W);omega)).k h.2.1,(i.O (p:=(T (J (U w)+1) 0 Y)) (by show (J (U w))+1<J (U W);omega)).k h.2.2.1,(i.frozen (p:=(T (J (U w)+1) 0 Y)) (by show (J (U w))+1<J (U W);omega)).k h.2.2.2.1,h.2.2.2.2.1,h.2.2.2.2.2.k (i.P (by omega))⟩)
  (λc s ZX B h i=>⟨h.1,(i.O (p:=(T (J (U w)+1) 0 Y)) (by show (J (U w))+1<J (U W);omega)).k h.2.1,h.2.2.1,h.2.2.2.k (i.P (by omega))⟩)
  ⟨ZS,O,ZQ,ZR,rfl,S⟩
  (λx=>{ tmps:=#[.agg #[Z (Q (T b off Y)) n j_],.pointer (Q (T (J (U w)) 0 Y)),.pointer (Q (T (J (U w)+1) 0 Y)),.pointer (Q (T (J (U w)+1+1) 0 Y)),.int I (x.1:Int),.agg #[Z (Q (T b off Y)) n j_],.func (.func 166) #[] #[.pointer (Q (T (J (U w)+1+1+1) 0 Y))],.int I (x.1:Int),.int I (x.2:Int),undef,undef,undef,undef,undef,undef],defers:=[] }) ?assign ?body ?done ?stop
 case assign =>intro l x W K o;gi_wp2;exact o
 case body =>
  rintro l pre x g _⟨hc,H,q,L,y,u⟩ hlt hz;clear ZQ ZR ZS O;have hpl:(ZU pre:Int)<=1048576:=by omega
  by_cases hx:(x.1:Int)=(ZU pre:Int)
  ·have D:bG 0 (pre++[x])=-1:=by rw[qn y.i,eT (by omega)]
   have m:=ae D;clear D;have R:=ae (Upd.setCell (P:=λk=>J (U w)<=k/\k<J (U W)) g (p:=(T (J (U w)+1+1) 0 Y)) ⟨by show _<=_+1+1;omega,by show _+1+1<_;omega⟩ (.int I ((ZU pre:Int)+1)));have z:=ae (u.setCell (p:=(T (J (U w)+1+1) 0 Y)) (by show _<=_+1+1;omega) (.int I ((ZU pre:Int)+1)));have c1:(g.setCell (T (J (U w)+1+1) 0 Y) (.int I ((ZU pre:Int)+1))).cell? (T (J (U w)+1+1) 0 Y)=Q (.int I ((pre++[x]).length:Int)):=by rw[BO _ _ _ (by rw[hc];rfl)];simp
   have c2:(g.setCell (T (J (U w)+1+1) 0 Y) (.int I ((ZU pre:Int)+1))).cell? (T (J (U w)+1) 0 Y)=Q (.int I 0):=by rw[sq _ _ _ _ (by simp)];exact q
   have G:=ae c1;have C2:=ae c2;clear c1 c2;gi_wp2;exact⟨R,G,by simpa using H,C2,by simpa using L,m,z⟩
  ·have D:bG 0 (pre++[x])=(ZU pre:Int):=by rw[qn y.i,eI (by omega)];simp
   have m:=ae D;clear D;have R:=ae (Upd.setCell (P:=λk=>J (U w)<=k/\k<J (U W)) g (p:=(T (J (U w)+1) 0 Y)) ⟨by show _<=_+1;omega,by show _+1<_;omega⟩ (.int I (ZU pre:Int)));have z:=ae (u.setCell (p:=(T (J (U w)+1) 0 Y)) (by show _<=_+1;omega) (.int I (ZU pre:Int)));have G:=ae (BO g (T (J (U w)+1) 0 Y) (.int I (ZU pre:Int)) (by rw[q];rfl));gi_wp2;exact⟨R,rfl,by rw[m.i];exact G,by show _≠_;rw[m.i];omega,z⟩
 case done =>rintro ZL ys g ZP rfl⟨_,_,q,L,y,u⟩ o;have ZM:=ae ((KeepsOthers.setCell g (T (J (U w)+1) 0 Y) (.int I (-1))).same ZL _ o rfl);have z:=ae (u.setCell (p:=(T (J (U w)+1) 0 Y)) (by show _<=_+1;omega) (.int I (-1)));have G:=ae (BO g (T (J (U w)+1) 0 Y) (.int I (-1)) (by rw[q];rfl));gi_wp2;refine⟨by simp,.inl ⟨_,_,rfl,run_takeDeferred ZM,?_⟩⟩;have C:=dO (n:=J (U W)) (g.setCell (T (J (U w)+1) 0 Y) (.int I (-1))) ZP (CV.1 ZM).1 (.deferred Y);have c:=(C.O (p:=(T (J (U w)+1) 0 Y)) (by show (J (U w))+1<J (U W);omega)).k G;exact⟨.int I (-1),by simp[results,results107,go_sem,c],by rw[y.i],z.k (C.P (by omega))⟩
 case stop =>rintro ZL c pre g ZP ZO⟨rfl,q,y,u⟩ o;gi_wp2;refine⟨by simp,.inl ⟨_,_,rfl,run_takeDeferred o,?_⟩⟩;have C:=dO (n:=J (U W)) g ZP (CV.1 o).1 (.deferred Y);have c:=(C.O (p:=(T (J (U w)+1) 0 Y)) (by show (J (U w))+1<J (U W);omega)).k q;exact⟨.int I (bG 0 pre),by simp[results,results107,go_sem,c],by rw[uA ZO y.i],u.k (C.P (by omega))⟩
structure Jp (W:E)(h:Nat)(v:ZB):Prop where
 size:J (U W)=h+3
 r:ZV W (T (h+1) 0 Y)=Q (.int I 0)/\ZW W (T (h+1) 0 Y)=ZA
 a:ZV W (T (h+1+1) 0 Y)=Q v
 a0:ZV W (T h 0 Y)=Q v
def zm (w:E)(v:ZB)(t u:ZK):Jp (A (A (A w (N #[v] t)) (N #[.int I 0] u)) (N #[v] t)) (J (U w)) v:=by
 have b:J (U (A w (N #[v] t)))=J (U w)+1:=by simp
 have f:J (U (A (A w (N #[v] t)) (N #[.int I 0] u)))=J (U w)+1+1:=by simp
 have h:Below (J (U w)+1) (A w (N #[v] t)) (A (A (A w (N #[v] t)) (N #[.int I 0] u)) (N #[v] t)):=(br.alloc (by omega) _).alloc (by omega) _;have g:Below (J (U w)+1+1) (A (A w (N #[v] t)) (N #[.int I 0] u)) (A (A (A w (N #[v] t)) (N #[.int I 0] u)) (N #[v] t)):=br.alloc (by omega) _;refine⟨by simp,⟨?_,?_⟩,?_,(h.O (p:=(T (J (U w)) 0 Y)) (eL _)).k (by simp)⟩;{refine(g.O (p:=(T (J (U w)+1) 0 Y)) (eL _)).k ?_;rw[<-b];clear h g b f;generalize A w (N #[v] t)=W;simp};{refine(g.frozen (p:=(T (J (U w)+1) 0 Y)) (eL _)).k ?_;rw[<-b];clear h g b f;generalize A w (N #[v] t)=W;simp};{rw[<-f];clear h g b f;generalize A (A w (N #[v] t)) (N #[.int I 0] u)=W;simp}
def xc (b off n j_:Nat)(f:Nat->au)(w:E)(ZO:gA f n)(hn1:1<=n)(hn:(n:Int)<=400)(X:Qv w b off n f)(hlk:∀p,p<n->(f p).f<=200):Calls Pg 108 #[.agg #[Z (Q (T b off Y)) n j_]] w λe V=>e=ZI (.int I (bm f (aG f n)))/\Below (J (U w)) w V:=by
 refine(XU (n:=3)).1 ?_;have HF:=ae X;have HA:=ae ZO;have ZP:=ae hlk;clear X ZO hlk;obtain⟨W,D⟩:∃W:E,A (A (A w (N #[Z (Q (T b off Y)) n j_] 25)) (N #[.int I 0] 3)) (N #[Z (Q (T b off Y)) n j_] 25)=W:=⟨_,rfl⟩
 obtain⟨t,-,-,-,-⟩:=nb3 D;replace t:=t.i;have G:=ae D;clear D;have ZM:=ae t;clear t;have C:=ae (zm w (Z (Q (T b off Y)) n j_) 25 3);refine callsIn_of_wp_marks func108 rfl trivial ?_ rfl;simp only[ntmps108,QG,vF,IT,Nat.reduceAdd,Nat.reduceSub,QY,QZ,SZ,RF,NS,PC];gi_wp2_with (refine⟨trivial,?_⟩;gi_at_call 146;refine(qk _ _ _).P ?_;rintro e V⟨rfl,rfl⟩);rw[G.i] at C ⊢;clear G;have hsz:=C.size;obtain⟨ZS,H⟩:=C.r;have S:=C.a0;refine jI (F:=Fence.wide) rfl (by omega) (gf:=166) (lb:=#[.pointer (Q (T (J (U w)+1+1) 0 Y))]) rfl trivial (enters_of func166 (by kernel_rfl) rfl) (base:=J (U w)) (by omega)
  (oM w b off n j_ (J (U w)+1+1) (3 - 1) f W HA hn1 hn HF ZP ZM C.a (by omega)) br (λ_=>rfl)
  (λpre q=>ZV q (T (J (U w)) 0 Y)=Q (Z (Q (T b off Y)) n j_)/\ZV q (T (J (U w)+1) 0 Y)=Q (.int I 0)/\ZW q (T (J (U w)+1) 0 Y)=ZA/\Hid (bm f pre=-1)/\Hid (Below (J (U w)) w q))
  (λc pre q=>c=.ret/\ZV q (T (J (U w)+1) 0 Y)=Q (.int I (bm f pre))/\Hid (bm f pre≠-1)/\Hid (Below (J (U w)) w q))
  (λs ZX B h o=>⟨(o.O (p:=(T (J (U w)) 0 Y)) (by show (J (U w))<J (U W);omega)).k h.1,(o.O (p:=(T (J (U w)+1) 0 Y)) (by show (J (U w))+1<J (U W);omega)).k h.2.1,(o.frozen (p:=(T (J (U w)+1) 0 Y)) (by show (J (U w))+1<J (U W);omega)).k h.2.2.1,h.2.2.2.1,h.2.2.2.2.k (o.P (by omega))⟩)
  (λc s ZX B h o=>⟨h.1,(o.O (p:=(T (J (U w)+1) 0 Y)) (by show (J (U w))+1<J (U W);omega)).k h.2.1,h.2.2.1,h.2.2.2.k (o.P (by omega))⟩)
  ⟨S,ZS,H,rfl,ZM⟩
  (λx=>{ tmps:=#[.agg #[Z (Q (T b off Y)) n j_],.pointer (Q (T (J (U w)) 0 Y)),.pointer (Q (T (J (U w)+1) 0 Y)),.int I (x.1:Int),.int I (x.2:Int),.agg #[Z (Q (T b off Y)) n j_],.func (.func 166) #[] #[.pointer (Q (T (J (U w)+1+1) 0 Y))],.int I (x.1:Int),.int I (x.2:Int),undef,undef,undef,undef,undef,undef,undef,undef,undef,undef,undef,undef],defers:=[] }) ?assign ?body ?done ?stop
 case assign =>intro l x W K u;gi_wp2;exact u
 case body =>
  rintro l pre x i ZN⟨R,m,z,ZT,j⟩ hlt hz;clear ZS H S;obtain⟨_,p1,_⟩:=(HF.aa j ly).2 x.1 ZN;have hx0:(0:Int)<=(x.1:Int):=by omega
  have hxn:(x.1:Int)<n:=by omega
  have L:=ae (xa (x:=x) ZT);have U1:=ae (Upd.setCell (P:=λk=>J (U w)<=k/\k<J (U W)) i (p:=(T (J (U w)+1) 0 Y)) ⟨by show _<=_+1;omega,by show _+1<_;omega⟩ (.int I (x.1:Int)));have ZR:=ae (j.setCell (p:=(T (J (U w)+1) 0 Y)) (by show _<=_+1;omega) (.int I (x.1:Int)));have ZQ:=ae (BO i (T (J (U w)+1) 0 Y) (.int I (x.1:Int)) (by rw[m];rfl));cases h3:((f x.1).L == 3) with
  |false =>
   have g:Hid (bm f (pre++[x])=-1):=by show _=_;rw[L.i,eI (by intro h;rw[h.1] at h3;simp at h3)]
   gi_wp2;exact⟨Upd.refl _ _,R,m,z,g,j⟩
  |true =>
   by_cases h6:(60:Int)<=(x.2:Int)
   ·have g:Hid (bm f (pre++[x])=(x.1:Int)):=by show _=_;rw[L.i,eT ⟨by simpa using h3,by omega⟩]
    gi_wp2;exact⟨U1,rfl,by rw[g.i];exact ZQ,by show _≠_;rw[g.i];omega,ZR⟩
   ·have g:Hid (bm f (pre++[x])=-1):=by show _=_;rw[L.i,eI (by intro h;omega)]
    gi_wp2;exact⟨Upd.refl _ _,R,m,z,g,j⟩
 case done =>rintro D0 ys i O rfl⟨_,m,z,ZT,j⟩ u;have ZL:=ae ((KeepsOthers.setCell i (T (J (U w)+1) 0 Y) (.int I (-1))).same D0 _ u rfl);have ZR:=ae (j.setCell (p:=(T (J (U w)+1) 0 Y)) (by show _<=_+1;omega) (.int I (-1)));have ZQ:=ae (BO i (T (J (U w)+1) 0 Y) (.int I (-1)) (by rw[m];rfl));gi_wp2;refine⟨by simp,.inl ⟨_,_,rfl,run_takeDeferred ZL,?_⟩⟩;have y:=dO (n:=J (U W)) (i.setCell (T (J (U w)+1) 0 Y) (.int I (-1))) O (CV.1 ZL).1 (.deferred Y);have c:=(y.O (p:=(T (J (U w)+1) 0 Y)) (by show (J (U w))+1<J (U W);omega)).k ZQ;exact⟨.int I (-1),by simp[results,results108,go_sem,c],by rw[ZT.i],ZR.k (y.P (by omega))⟩
 case stop =>rintro D0 c pre i O M⟨rfl,m,ZT,j⟩ u;gi_wp2;refine⟨by simp,.inl ⟨_,_,rfl,run_takeDeferred u,?_⟩⟩;have y:=dO (n:=J (U W)) i O (CV.1 u).1 (.deferred Y);have c:=(y.O (p:=(T (J (U w)+1) 0 Y)) (by show (J (U w))+1<J (U W);omega)).k m;exact⟨.int I (bm f pre),by simp[results,results108,go_sem,c],by rw[tL M ZT.i],j.k (y.P (by omega))⟩
def qp (g:Nat->Bool)(n:Nat):aQ g n=-1\/0<=aQ g n:=by
 induction n with
 |zero=>exact .inl rfl
 |succ k b =>
  rw[aQ];split;{split;{exact .inl rfl};{exact .inr (by omega)}};{exact b}
def Ek (i:Nat)(b:List (Nat × Nat)):bG i b=-1\/0<=bG i b:=by
 induction b generalizing i with
 |nil=>exact .inl rfl
 |cons x b f =>
  rw[bG];split;{exact f _};{exact .inr (by omega)}
def sD (f:Nat->au)(b:List (Nat × Nat)):bm f b=-1\/0<=bm f b:=by
 induction b with
 |nil=>exact .inl rfl
 |cons x b g =>
  rw[bm];split;{exact .inr (by omega)};{exact g}
def pk (h:aQ (bw f) n=-1):∀p,p<n->(f p).f<=200:=by
 intro p b;have h1:=eN h p b;simp only[bw,j6,kindOk] at h1;obtain⟨_,h2⟩:=h1;split at h2;{simp[aY] at h2;omega};{split at h2;{simp[aY] at h2;omega};{split at h2;{simp only[cC,j6,nD] at h2;omega};{cases h2}}}
def El (h:aQ (bw f) n=-1):∀p,p<n->(f p).e.size<=maxLen:=by intro p b;have h1:=eN h p b;simp only[bw,aA,j6,nD] at h1;unfold maxLen;omega
def kI (g:gA f n)(hn:1<=n):(aG f n).length<=n:=by
 have h:=(xN g n (n - 1) 0 (λ_=>ZA) (by omega) (by omega) rfl).num;have h2:=Iz (lst f n (n - 1) 0 (λ_=>ZA)).1 n;have i:∀k,yh (λ_=>ZA) k=0:=by
  intro k;induction k with
  |zero=>rfl
  |succ j b=>rw[yh,b];rfl
 rw[i] at h;unfold aG;omega
structure Jq (w:E)(b:Nat)(v0 v1 v2 v3:ZB):Prop where
 lt:b<J (U w)
 c0:ZV w (T b 0 Y)=Q v0
 c1:ZV w (T b 1 Y)=Q v1
 c2:ZV w (T b 2 Y)=Q v2
 c3:ZV w (T b 3 Y)=Q v3
def G8 (w:E)(g f b h:ZB)(t:ZK):Jq (A w (N #[g,f,b,h] t)) (J (U w)) g f b h:=⟨by simp,by simp,by simp,by simp,by simp⟩
def xd (a:O_)(n j_:Nat)(f:Nat->au)(w:E)(hn:(n:Int)<=1048576)(V:SlDeed w a n f)(L:(n:Int)<=j_)(D:∀i,i<n->cX (f i))(ZL:Tab w):Calls Pg 71 #[.agg #[Z a n j_]] w λe w'=>e=ZI (.tuple #[.int I (dE f n).1,.int I (dE f n).2])/\Below (J (U w)) w w':=by
 have ZN:=ae V;have HM:=ae D;have S:=ae ZL;clear V D ZL;have ZR:=ae ((BS w).alloc ly (N #[Z a n j_] 25));have R:ZV (A w (N #[Z a n j_] 25)) (T (J (U w)) 0 Y)=Q (Z a n j_):=by simp
 obtain⟨c1,c2,o⟩:∃c1 c2,dE f n=(c1,c2):=⟨_,_,rfl⟩
 rw[o];have z:=ae o;clear o;by_cases ZP:(n:Int)=0
 ·have g:c1=1/\c2=0:=by have:=z.i;unfold dE at this;rw[eT (.inl (by omega))] at this;simp only[LK] at this;omega
  clear z;obtain⟨g,q⟩:=g;subst g q;obtain rfl:n=0:=by omega
  go_enter func71,ntmps71;go_wp2;go_ret2;exact⟨rfl,ZR⟩
 by_cases h4:(400:Int)<(n:Int)
 ·have g:c1=1/\c2=0:=by have:=z.i;unfold dE at this;rw[eT (.inr (by omega))] at this;simp only[LK] at this;omega
  clear z;obtain⟨g,q⟩:=g;subst g q;have ZO:((n:Int) == 0)=ZA:=by simpa using ZP
  go_enter func71,ntmps71;go_wp2;go_ret2;exact⟨rfl,ZR⟩
 have s:Hid ((if aQ (bw f) n≠-1 then ((2:Int),aQ (bw f) n) else if aQ (λp=>bj f p p) n≠-1 then (3,aQ (λp=>bj f p p) n) else if bG 0 (aG f n)≠-1 then (4,bG 0 (aG f n)) else if bm f (aG f n)≠-1 then (5,bm f (aG f n)) else (0,0))=(c1,c2)):=by have:=z.i;unfold dE at this;rw[eI (by omega)] at this;exact this
 clear z;obtain⟨b,off,rfl,C⟩:=ZN.resolve_left (by omega);have H:=ae C;have ZO:((n:Int) == 0)=ZA:=by simpa using ZP
 clear ZN C;have t:(n:Int)<=400:=by omega
 have P:=ae (ZR.alloc (by simp) (N #[.func (.func 105) #[] #[],.func (.func 106) #[] #[],.func (.func 107) #[] #[],.func (.func 108) #[] #[]] 172));go_enter func71,ntmps71;go_wp2;have K:J (U (A w (N #[Z (Q (T b off Y)) n j_] 25)))=J (U w)+1:=by simp
 have r:=ae (G8 (A w (N #[Z (Q (T b off Y)) n j_] 25)) (.func (.func 105) #[] #[]) (.func (.func 106) #[] #[]) (.func (.func 107) #[] #[]) (.func (.func 108) #[] #[]) 172);rw[K] at r;have ZM:=(((a8 (J (U w)+1) (A w (N #[Z (Q (T b off Y)) n j_] 25))).alloc (by omega) (N #[.func (.func 105) #[] #[],.func (.func 106) #[] #[],.func (.func 107) #[] #[],.func (.func 108) #[] #[]] 172)).O (p:=(T (J (U w)) 0 Y)) (eL _)).k R;clear K R ZR;generalize World.alloc (World.alloc w _) _=W at P r ZM ⊢;have u:J (U w)+1<J (U W):=r.lt;go_loopw [21] (λi wr=>∃k:Nat,k<=4/\i=.int I k/\Hid (1<=k->aQ (bw f) n=-1)/\Hid (2<=k->aQ (λp=>bj f p p) n=-1)/\Hid (3<=k->bG 0 (aG f n)=-1)/\Hid (4<=k->bm f (aG f n)=-1)/\Hid (Below (J (U W)) W wr)) (λi _=>4 - (intOf i).toNat);case atStart=>exact⟨0,by omega,rfl,λh=>by omega,λh=>by omega,λh=>by omega,λh=>by omega,a8 _ _⟩
 case round =>
  obtain⟨k,hk,rfl,j,G,O,H4,m⟩:=hrel;have k2:=(m.O (p:=(T (J (U w)) 0 Y)) (by show (J (U w))<_;omega)).k ZM;have l:=ae (P.k (m.P P.size));by_cases hlt:k<4
  ·rcases(show(True/\k=0)\/(True/\k=1)\/(True/\k=2)\/(True/\k=3) by rcases(show k=0\/k=1\/k=2\/k=3 by omega) with h|h|h|h<;>simp[h]) with⟨M0,rfl⟩|⟨M1,rfl⟩|⟨M2,rfl⟩|⟨M3,rfl⟩
   all_goals
    first
     |(guard_hyp M0;have M:=(m.O (p:=(T (J (U w)+1) 0 Y)) u).k r.c0;have B:=ae (tE b off n j_ f _ t (H.aa l ly) L HM (S.aa l S.1));have ZX:=ae (qp _ _:aQ (bw f) n=-1\/0<=aQ (bw f) n);obtain⟨X,hX⟩:∃X,X=aQ (bw f) n:=⟨_,rfl⟩)
     |(guard_hyp M1;have M:=(m.O (p:=(T (J (U w)+1) 1 Y)) u).k r.c1;have B:=ae (tK b off n j_ f _ t (H.aa l ly) (El (j (by omega))));have ZX:=ae (qp _ _:aQ (λp=>bj f p p) n=-1\/0<=aQ (λp=>bj f p p) n);obtain⟨X,hX⟩:∃X,X=aQ (λp=>bj f p p) n:=⟨_,rfl⟩)
     |(guard_hyp M2;have M:=(m.O (p:=(T (J (U w)+1) 2 Y)) u).k r.c2;have B:=ae (tM b off n j_ f _ (jE (j (by omega))) (by omega) t (H.aa l ly) (pk (j (by omega))) (by have:=kI (jE (j (by omega))) (n:=n) (by omega);omega));have ZX:=ae (Ek _ _:bG 0 (aG f n)=-1\/0<=bG 0 (aG f n));obtain⟨X,hX⟩:∃X,X=bG 0 (aG f n):=⟨_,rfl⟩)
     |(guard_hyp M3;have M:=(m.O (p:=(T (J (U w)+1) 3 Y)) u).k r.c3;have B:=ae (xc b off n j_ f _ (jE (j (by omega))) (by omega) t (H.aa l ly) (pk (j (by omega))));have ZX:=ae (sD _ _:bm f (aG f n)=-1\/0<=bm f (aG f n));obtain⟨X,hX⟩:∃X,X=bm f (aG f n):=⟨_,rfl⟩)
    rw[<-hX] at B ZX;have ZT:=ae hX;clear hX;go_wp2_with fail;refine B.P ?_;rintro e w2⟨rfl,ZQ⟩;have G1:=ae (l.k (ZQ.P l.size));have x:=ae (m.k (ZQ.P m.size));clear ZQ B;by_cases y:X=-1
    ·have ZS:=ae (ZT.c.k y)
     have hd:decide (0<=X)=ZA:=by rw[y];rfl
     clear y;go_wp2;first
      |(guard_hyp M0;exact⟨⟨0+1,by omega,by go_num,λ_=>ZS,λh=>by omega,λh=>by omega,λh=>by omega,x⟩,by simp[intOf]⟩)
      |(guard_hyp M1;exact⟨⟨1+1,by omega,by go_num,λ_=>j (by omega),λ_=>ZS,λh=>by omega,λh=>by omega,x⟩,by simp[intOf]⟩)
      |(guard_hyp M2;exact⟨⟨2+1,by omega,by go_num,λ_=>j (by omega),λ_=>G (by omega),λ_=>ZS,λh=>by omega,x⟩,by simp[intOf]⟩)
      |(guard_hyp M3;exact⟨⟨3+1,by omega,by go_num,λ_=>j (by omega),λ_=>G (by omega),λ_=>O (by omega),λ_=>ZS,x⟩,by simp[intOf]⟩)
    ·have g:=s.i
     (try rw[eI (by rw[j.i (by omega)];simp)] at g)
     (try rw[eI (by rw[G.i (by omega)];simp)] at g)
     (try rw[eI (by rw[O.i (by omega)];simp)] at g)
     rw[eT (by rw[<-ZT.i];exact y),<-ZT.i] at g;simp only[LK] at g;have hge:0<=X:=ZX.resolve_left y;obtain⟨g,q⟩:=g;clear s y ZX;subst g q;go_wp2;go_ret2;exact⟨rfl,G1⟩
  ·obtain rfl:k=4:=by omega
   have g:c1=0/\c2=0:=by have:=s.i;rw[eI (by rw[j.i (by omega)];simp),eI (by rw[G.i (by omega)];simp),eI (by rw[O.i (by omega)];simp),eI (by rw[H4.i (by omega)];simp)] at this;simp only[LK] at this;omega
   obtain⟨g,q⟩:=g;clear s;subst g q;go_wp2;go_ret2;exact⟨rfl,l⟩
