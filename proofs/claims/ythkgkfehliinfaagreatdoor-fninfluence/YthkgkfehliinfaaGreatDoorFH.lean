import Derived.Test.YthkgkfehliinfaaGreatDoorGY
import Derived.RangeFuncNested
import Derived.RangeFuncBound
import Derived.RangeFuncCalls
import Derived.RangeFuncLeaves
import Derived.Shelf.Abstract
import Derived.Shelf.RegionOpen
import Derived.OwnWalkIn
import Derived.TacticsInMore
import Derived.LoopNIn
import Derived.LoopIn
import Derived.Sort.QuietIn
import Derived.Sort.BigQuietIn
import Derived.Sort.CutIn
import Derived.Maps.OwnSet
import Derived.Maps.Views
import Derived.StringKeys
set_option linter.all false
set_option maxRecDepth 100000
set_option maxHeartbeats 4000000
open Go renaming Addr.mk->Q,Value.slice->Y,Obj.cells->N,IntKind.i64->I,World->E,Value->ZB,TypeId->ZK,Ending.returned->ZI,World.heap->U,World.alloc->A,World.cell?->ZW,World.frozen?->ZX,World.setCell->ZU,Proofs.Tryz.prog->Pg
open Option renaming none->Z,some->T
open Bool renaming false->ZA,true->ZH
open Array renaming size->J
open List renaming length->ZV
namespace Go.Proofs.YthkgkfehliinfaaGreatDoor.Vp
open Tryz RowKit
variable {n l b off j_ n1 L M i m:Nat}{W g:E}{f:Nat->au}{s:Nat->Bool}{pre:List (Nat × Nat)}{ZO:ZK}{P:Program}{R:Ending->E->Prop}{x:Nat × Nat}
def GW{k:Nat}{D:DataW Unit}(b:Maps.IsMap D)(h:∀p,Maps.has D (.string (f p).e.data.toList)=!bj f p k)(d:DataW Unit):∀p,Maps.has (D.put (.string (f k).e.data.toList) d) (.string (f p).e.data.toList)=!bj f p (k+1):=by
 intro p;rw[bj,Bool.not_and,<-h p,Bool.not_not];by_cases e:(f p).e.data.toList=(f k).e.data.toList;{rw[e,Maps.has_put_same b (by simp[WideAt.IsKeyLit])];simp[NM,e]}
 ·rw[YE (by simpa using e)];have:((f k).e.toList == (f p).e.toList)=ZA:=by simpa[NM] using λh=>e (by rw[h])
  rw[this];simp
def tK (b off n j_:Nat)(f:Nat->au)(w:E)(hn:(n:Int)<=400)(R:Qk w b off n f)(S:∀i,i<n->(f i).e.size<=maxLen):Calls Pg 124 #[.agg #[Y (T (Q b off Z)) n j_]] w λe w'=>e=ZI (.int I (aQ (λp=>bj f p p) n))/\Below (J (U w)) w w':=by
 have ZM:=ae R;have HS:=ae S;clear R S;have V:=ae (((BS w).alloc ly (N #[Y (T (Q b off Z)) n j_] 25)).alloc (by simp) (.map #[] 0));have C:=ae (YF (A w (N #[Y (T (Q b off Z)) n j_] 25)) Pg 9 (plainElem (H:=Unit) Pg 3));have hz:J (U (A w (N #[Y (T (Q b off Z)) n j_] 25)))=J (U w)+1:=by simp
 rw[hz] at C;clear hz;obtain⟨r,K⟩:∃r,r=aQ (λp=>bj f p p) n:=⟨_,rfl⟩
 rw[<-K];have ZQ:=ae K;clear K;have L:=@run_makeMap Pg;go_enter func124,ntmps124;go_wp2;clear L;generalize World.alloc (World.alloc w _) _=W at V C ⊢;obtain⟨o,ZY⟩:∃o,o=J (U w)+1:=⟨_,rfl⟩
 rw[<-ZY] at C ⊢;have ZN:=ae ZY;clear ZY;go_loopw [12] (λi wr=>∃(k:Nat) (D:DataW Unit),k<=n/\i=.int I k/\Hid (∀j,j<k->bj f j j=ZH)/\Hid (wr.ownsMap Pg 9 (plainElem (H:=Unit) Pg 3) o k D)/\Hid (∀p,Maps.has D (.string (f p).e.data.toList)=!bj f p k)/\Hid (Below (J (U w)) w wr)) (λi _=>n - (intOf i).toNat);case atStart=>exact⟨0,_,by omega,rfl,λj ZO=>absurd ZO (NF _),C,λp=>rfl,V⟩
 case round =>
  obtain⟨k,D,hk,rfl,ZS,B,M,l⟩:=hrel;by_cases q:k<n
  ·obtain⟨p0,p1,p2,p3,⟨a0,s,p4,X⟩,⟨a1,x,p5,ZL⟩⟩:=(ZM.aa l ly).2 k q;clear X ZL;have t:=QT (P:=Pg) (k:=9) ES (HS k q);have h:=ae t;have G:=ae (M k);clear t;cases hnew:bj f k k with
   |false =>
    have u:Maps.has D (.string (f k).e.data.toList)=ZH:=by rw[G.i,hnew];rfl
    have HHS:=ae u;obtain rfl:r=k:=by rw[ZQ.i];exact fQ q hnew ZS
    clear hnew;have ZR:=ae (l.alloc l.size (N #[.string (f k).e,.int I (f k).m,.int I (f k).M,.string (f k).H,Y a0 (f k).h s,Y a1 (f k).f x] 58));go_wp2_with (at_lookup;refine wpList_lookup_own_ok_int _ rfl _ _ 229 rfl 9 3 I (SV ES) YG OH (PX _) o k D rfl (B.alloc _) _ _ rfl h ?_;intro c z y;clear z y);go_ret;exact⟨rfl,ZR⟩
   |true =>
    have u:Maps.has D (.string (f k).e.data.toList)=ZA:=by rw[G.i,hnew];rfl
    have O:=ae hnew;clear hnew;have ZT:(Lit.int I (k:Int)).wf=ZH:=by simp only[Lit.wf,IntKind.min,IntKind.max,IntKind.signed,IntKind.bits,j6,nD,Y2];omega
    have ZP:=ae ZT;clear ZT
    go_wp2_with (first
     |(at_lookup;refine wpList_lookup_own_ok_int _ rfl _ _ 229 rfl 9 3 I (SV ES) YG OH (PX _) o k D rfl (B.alloc _) _ _ rfl h ?_;intro c z y;clear z y)
     |(at_mapUpdate;refine WZ _ rfl _ _ _ 229 rfl 9 3 (SV ES) YG _ o k D rfl (B.alloc _) (by unfold maxLen;omega) _ _ _ rfl rfl h _ [] (plainElem_int OH ZP) ?_;intro w1 m g;have M1:=ae m;have ZR:=ae (bg (l.alloc l.size (N #[.string (f k).e,.int I (f k).m,.int I (f k).M,.string (f k).H,Y a0 (f k).h s,Y a1 (f k).f x] 58)) g (by have:=l.size;simp;omega) (λj e=>by cases e;have:=ZN.i;omega));clear m g))
    exact⟨⟨k+1,_,by omega,by go_num,λj ZO=>by
     by_cases e:j=k;{subst e;exact O}
     ·exact ZS j (by omega),M1,GW B.isMap M _,ZR⟩,by simp[intOf];omega⟩
  ·have e:n=k:=by omega
   subst e;obtain rfl:r=-1:=by rw[ZQ.i];exact ej ZS
   go_wp2;go_ret;exact⟨rfl,l⟩
open Go.Shelf Ca
attribute [local go_sem] Oper.semAt_some
structure LSt (w0 W:E)(n1 b off n j_ L M l:Nat)(s:Nat->Bool):Prop where
 c0:ZW W (Q L 0 Z)=T (Y (T (Q b off Z)) n j_)
 c1:ZW W (Q L 1 Z)=T (Y (T (Q M 0 Z)) n n)
 c2:ZW W (Q L 2 Z)=T (.func (.yield l) #[] #[])
 row:∀q,q<n->ZW W (Q M q Z)=T (.bool (s q))/\ZX W (Q M q Z)=ZA
 low:Below (J (U w0)) w0 W
 hL:n1<=L/\L<J (U W)
 hM:n1<=M/\M<J (U W)
 ne:L≠M
 hb:J (U w0)<=n1
 tyM:OfTy W M 4
 tyL:OfTy W L 209
def LSt.blocks{f:E}(h:LSt g W n1 b off n j_ L M l s)(hz:J (U W)<=J (U f))(j:f.heap[L]?=W.heap[L]?)(i:f.heap[M]?=W.heap[M]?)(p:Below (J (U g)) g f):LSt g f n1 b off n j_ L M l s:=by have c:∀o,ZW f (Q L o Z)=ZW W (Q L o Z):=λo=>cq (a:=(Q L o Z)) j;exact⟨(c 0).k h.c0,(c 1).k h.c1,(c 2).k h.c2,λq m=>⟨(cq (a:=(Q M q Z)) i).k (h.row q m).1,(NG (a:=(Q M q Z)) i).k (h.row q m).2⟩,p,⟨h.hL.1,lj h.hL.2 hz⟩,⟨h.hM.1,lj h.hM.2 hz⟩,h.ne,h.hb,h.tyM.eq i,h.tyL.eq j⟩
def LSt.aa{f:E}(h:LSt g W n1 b off n j_ L M l s)(hb:Below (J (U W)) W f):LSt g f n1 b off n j_ L M l s:=
 h.blocks hb.size (hb.p L h.hL.2) (hb.p M h.hM.2) (h.low.k (hb.P h.low.size))
def LSt.upd{j:E}(i:ZO≠4/\ZO≠209)(h:LSt g W n1 b off n j_ L M l s)(f:Upd2 ZO (J (U g)) n1 W j):LSt g j n1 b off n j_ L M l s:=
 h.blocks f.size (f.p L h.hL.2 (.inr ⟨h.hL.1,h.tyL.ne i.2⟩)) (f.p M h.hM.2 (.inr ⟨h.hM.1,h.tyM.ne i.1⟩)) (h.low.k (f.aa h.low.size))
def LSt.set{p:Nat}(h:LSt g W n1 b off n j_ L M l s)(hp:p<n):LSt g (ZU W (Q M p Z) (.bool ZH)) n1 b off n j_ L M l (put s p):=by
 have c:∀o,ZW (ZU W (Q M p Z) (.bool ZH)) (Q L o Z)=ZW W (Q L o Z):=λo=>sq _ _ _ _ (by simp;exact λe=>absurd e.c h.ne);refine⟨(c 0).k h.c0,(c 1).k h.c1,(c 2).k h.c2,λq f=>⟨?_,by simpa using(h.row q f).2⟩,h.low.setCell (by have:=h.hM.1;have:=h.hb;show _<=M;omega) _,by simpa using h.hL,by simpa using h.hM,h.ne,h.hb,h.tyM.set _ _,h.tyL.set _ _⟩;by_cases e:q=p;{subst e;rw[BO _ _ _ (by rw[(h.row q f).1];rfl)];simp[put]};{rw[sq _ _ _ _ (by simp),(h.row q f).1];simp[put,e]}
def qi{go:Nat->Nat->(Nat->Bool)->(Nat->Bool) × List (Nat × Nat)}{x:au}{d:Nat}(h:i<=m):(lks go x d s i).2 <+: (lks go x d s m).2:=by
 induction m with
 |zero =>
  obtain rfl:i=0:=by omega
  exact XH
 |succ k b =>
  by_cases e:i=k+1;{subst e;exact XH};{refine(b (by omega)).k ?_;rw[lks];split;{exact YH _ _};{exact XH}}
def GY (hT:ZO≠4/\ZO≠209)(O:E)(n1 b off n j_ L M l:Nat)(H:List (Nat × Nat))(f:Nat->au)(ZR Jx:List (Nat × Nat)->E->Prop)(hA:gA f n)(hn:(n:Int)<=400)(hf:Qk O b off n f)(hlk:∀p,p<n->(f p).f<=200)
  (hJ:∀s ZY C,ZR s ZY->Itr 4 n1 ZY C->ZR s C) (ld:∀s ZY C,Jx s ZY->Itr 4 n1 ZY C->Jx s C)
  (hY:∀m pre (x:Nat × Nat) W,x.1<n->ZR pre W->pre++[x] <+: H->n1<=J (U W)->YieldAt Fence.wide m Pg l #[.int I (x.1:Int),.int I (x.2:Int)] W λe B =>
   (e=ZI (.bool ZH)/\ZR (pre++[x]) B/\Upd2 ZO (J (U O)) n1 W B)\/(e=ZI (.bool ZA)/\Jx (pre++[x]) B)) :
  ∀(k p d:Nat) (s:Nat->Bool) (pre:List (Nat × Nat)) (W:E) (ZQ:Nat),p<k->p<n->d+p<=1000->LSt O W n1 b off n j_ L M l s->s p=ZA->ZR pre W->pre++(lst f k p d s).2 <+: H ->
   CallsIn Fence.wide ZQ Pg 138 #[.pointer (T (Q L 0 Z)),.int I (p:Int),.int I (d:Int)] W λe B =>(e=ZI (.bool ZH)/\ZR (pre++(lst f k p d s).2) B/\LSt O B n1 b off n j_ L M l (lst f k p d s).1)\/(e=ZI (.bool ZA)/\∃q,q <+: (lst f k p d s).2/\Jx (pre++q) B):=by
 intro k;induction k with
 |zero=>intro p d s pre W ZQ h;omega
 |succ k ih =>
  intro p d s pre W ZQ hpk G hdp hS hs mv hN;have HS:=ae hS;have Bk:=ae mv;have HN:=ae hN;have DQ:=ae ih;have HY:=ae hY;have ZM:=ae hJ;have HJx:=ae ld;have HA:=ae hA;have HF:=ae hf;obtain⟨_,_,_,_,_,⟨a1,cap1,n8,q5⟩⟩:=hf.2 p G;have p5:=(hS.low.O (p:=(Q b (off+p*6+5) Z)) hf.1).k n8;obtain⟨m,ZN⟩:∃m,m=(f p).f:=⟨_,rfl⟩
  have hm2:m<=200:=by rw[ZN];exact hlk p G
  rw[<-ZN] at p5 q5;have HL:=ae q5;have HM:=ae ZN;have e0:=hS.c0;obtain⟨K,hK⟩:∃K,K=lks (lst f k) (f p) d s:=⟨_,rfl⟩
  have ZS:Hid (lst f (k+1) p d s=(put (K m).1 p,(K m).2++[(p,d)])):=by rw[hK,ZN];rfl
  have ph:Hid (K 0=(s,[])):=by rw[hK];rfl
  have Hx:Hid (∀j,K (j+1)=if ((f p).l j).ask=ZH/\(K j).1 ((f p).l j).G.toNat=ZA then ((lst f k ((f p).l j).G.toNat (d+1) (K j).1).1,(K j).2++(lst f k ((f p).l j).G.toNat (d+1) (K j).1).2) else K j):=λj=>by rw[hK];rfl
  have Fk:Hid (∀i,i<=m->(K i).2 <+: (K m).2):=λi hi=>by rw[hK];exact qi hi
  clear hS mv hN ih hY hJ ld hA hf q5 ZN hlk n8 hK;refine YX func138 rfl trivial ?_ rfl;simp only[ntmps138,QG,vF,IS,Nat.reduceAdd,Nat.reduceSub,QY,QZ,SY,RF,NS,PC];gi_wp2;clear e0 p5;gi_loopw [18] (λi wr=>∃j:Nat,j<=m/\i=.int I j/\Hid (LSt O wr n1 b off n j_ L M l (K j).1)/\Hid (ZR (pre++(K j).2) wr)) (λi _=>m - (intOf i).toNat);case atStart=>exact⟨0,by omega,rfl,by rw[ph.i];exact HS,by rw[ph.i,XI];exact Bk⟩
  case round =>
   obtain⟨j,hj,rfl,g,ro⟩:=hrel;by_cases ur:j<m
   ·obtain⟨lb,lo,rfl,ex⟩:=(HL.aa g.low ly).resolve_left (by omega);obtain⟨d0,d1,d2,d3⟩:=ex.2 j ur;clear ex;have aq:=Hx.i j;have R:=HA.i p G j (by have:=HM.i;omega);generalize (f p).l j=x at d0 d1 d2 d3 aq R;have bt:=ae aq;clear aq;have ZT:=ae (g.aa (br.alloc ly (N #[.string x.e,.bool x.ask,.bool x.has,.int I x.G] 74)));have J1:=ae (ZM _ _ _ ro (Itr.q ((BS wr).alloc ly (N #[.string x.e,.bool x.ask,.bool x.has,.int I x.G] 74)) ly (by have:=g.hL;omega)));have e1:ZW (A wr (N #[.string x.e,.bool x.ask,.bool x.has,.int I x.G] 74)) (Q (J (U wr)) 1 Z)=T (.bool x.ask):=by simp
    have e3:ZW (A wr (N #[.string x.e,.bool x.ask,.bool x.has,.int I x.G] 74)) (Q (J (U wr)) 3 Z)=T (.int I x.G):=by simp
    have th:=ae R;clear R;gi_upto_region 4 with fail;clear d0 d1 d2 d3;generalize World.alloc wr _=D at ZT J1 e1 e3 ⊢;generalize (J (U wr))=X at e1 e3 ⊢;cases hask:x.ask with
    |false =>
     have o:K (j+1)=K j:=by rw[bt.i,eI (by rw[hask];simp)]
     have t:=ae o;clear o;rw[hask] at e1;have DE:∀f,Fence.wide.fn f=True:=λ_=>rfl;gi_quiet (fail);have ZP:=ae (ZT.aa (AD (BS D) nq));have V:=ae (ZM _ _ _ J1 (Itr.q (AD (BS D) nq) ly (by have:=ZT.hL;omega)));gi_wp2;exact⟨⟨j+1,by omega,by go_num,by rw[t.i];exact ZP,by rw[t.i];exact V⟩,by simp[intOf];omega⟩
    |true =>
     obtain⟨q,S⟩:∃q:Nat,x.G=(q:Int):=⟨x.G.toNat,by have:=(th hask).2;omega⟩
     have hqp:q<p:=by have:=(th hask).1;rw[S] at this;simpa using this
     rw[S] at e3;rw[hask] at e1;have f1:=ZT.c1;obtain⟨f2,_⟩:=ZT.row q (by omega);have hq0:(0:Int)<=q:=by omega
     have hqn:(q:Int)<n:=by omega
     have DE:∀f,Fence.wide.fn f=True:=λ_=>rfl;cases hl:(K j).1 q with
     |true =>
      have o:K (j+1)=K j:=by rw[bt.i,eI (by rw[S];simp[hl])]
      have t:=ae o;clear o;rw[hl] at f2;gi_quiet (fail);have ZP:=ae (ZT.aa (AD (BS D) nq));have V:=ae (ZM _ _ _ J1 (Itr.q (AD (BS D) nq) ly (by have:=ZT.hL;omega)));gi_wp2;exact⟨⟨j+1,by omega,by go_num,by rw[t.i];exact ZP,by rw[t.i];exact V⟩,by simp[intOf];omega⟩
     |false =>
      have o:K (j+1)=((lst f k q (d+1) (K j).1).1,(K j).2++(lst f k q (d+1) (K j).1).2):=by rw[bt.i,eT ⟨hask,by rw[S];simpa using hl⟩,S];simp
      have t:=ae o;have ZL:=Fk.i (j+1) (by omega);rw[o] at ZL;have la:=ae ZL;have fd:((d+1:Nat):Int)=(d:Int)+1:=by omega
      have HC:Hid (∀W2 ZQ,LSt O W2 n1 b off n j_ L M l (K j).1->ZR (pre++(K j).2) W2->CallsIn Fence.wide ZQ Pg 138 #[.pointer (T (Q L 0 Z)),.int I (q:Int),.int I ((d:Int)+1)] W2 λe B =>
        ∃r:Bool,e=ZI (.bool r)/\Hid ((r=ZH/\ZR (pre++(K (j+1)).2) B/\LSt O B n1 b off n j_ L M l (K (j+1)).1)\/(r=ZA/\∃q,q <+: (K m).2++[(p,d)]/\Jx (pre++q) B))):=by
       intro W2 ZQ h1 h2;have P:(pre++(K j).2)++(lst f k q (d+1) (K j).1).2 <+: H:=by have u:=HN.i;rw[ZS.i] at u;obtain⟨z,hz⟩:=u;obtain⟨y,hy⟩:=la.i;exact⟨y++[(p,d)]++z,by rw[<-hz];simp only[];rw[<-hy];simp⟩
       have h:=DQ.i q (d+1) (K j).1 (pre++(K j).2) W2 ZQ (by omega) (by omega) (by omega) h1 hl h2 P;rw[fd] at h;refine h.P λe B h=>?_;rcases h with⟨he,hj,hs⟩|⟨he,q',GS,hx⟩
       ·exact⟨ZH,he,.inl ⟨rfl,by rw[t.i,<-NQ];exact hj,by rw[t.i];exact hs⟩⟩
       ·refine⟨ZA,he,.inr ⟨rfl,(K j).2++q',?_,by rw[<-NQ];exact hx⟩⟩
        obtain⟨z,hz⟩:=GS;obtain⟨y,hy⟩:=la.i;exact⟨z++y++[(p,d)],by rw[<-hy,<-hz];simp⟩
      have At:=ae (ZT.aa ((BS D).drew));have Fd:=ae (ZM _ _ _ J1 (Itr.q (BS D).drew ly (by have:=ZT.hL;omega)));have hwr:IntKind.i64.wrap ((d:Int)+1)=(d:Int)+1:=by rw[nL];omega
      clear o ZL;rw[hl] at f2;gi_region_with ((try refine⟨λh=>(by cases h),?_⟩);gi_at_call 138;refine(HC _ _ ?_ ?_).P ?_;(first|exact At|exact ZT);(first|exact Fd|exact J1);rintro e W3⟨r,rfl,H3⟩);all_goals
       cases r with
       |true =>have u:=H3.resolve_right (λh=>by cases h.1);have S3:=ae u.2.2;have J3:=ae u.2.1;clear u H3;gi_wp2;exact⟨⟨j+1,by omega,by go_num,S3,J3⟩,by simp[intOf];omega⟩
       |false =>have u:=H3.resolve_left (λh=>by cases h.1);have X3:=ae u.2;clear u H3;gi_wp2;go_ret;rw[ZS.i];exact .inr ⟨rfl,X3⟩
   ·have e:m=j:=by omega
    subst e;have ZP:=ae (g.set G);have V:=ae (ZM _ _ _ ro (Itr.setCell wr (p:=(Q M p Z)) g.hM.1 g.tyM (.bool ZH)));have P:(pre++(K m).2)++[(p,d)] <+: H:=by have u:=HN.i;rw[ZS.i] at u;simpa using u
    have Fm:=HY.i (ZQ - 1) (pre++(K m).2) (p,d) _ G V P (by have:=g.hL;simp;omega);obtain⟨fn,tmps,assign,body,hy,hR⟩:=Fm;dsimp only at hy;have HR:=ae hR;clear hR;have g1:=g.c1;obtain⟨g3,g4⟩:=g.row p G;have g2:=ZP.c2;have hp0:(0:Int)<=p:=by omega
    have hpn':(p:Int)<n:=by omega
    gi_wp2;refine⟨λh=>(by cases h),HR.P ?_⟩;rintro e W3 (⟨rfl,n9,qr⟩|⟨rfl,sm⟩);{have J3:=ae n9;have S3:=ae (ZP.upd hT qr);clear n9 qr;gi_wp2;go_ret;rw[ZS.i];exact .inl ⟨rfl,by rw[<-NQ];exact J3,S3⟩};{have X3:=ae sm;clear sm;gi_wp2;go_ret;rw[ZS.i];exact .inr ⟨rfl,_,XH,by rw[<-NQ];exact X3⟩}
attribute [local go_sem] Oper.semAt_some
def Ef{F:Fence}(b:F.depth=Z){g:Nat}{f:FuncId}{tmps:Array ZB}{assign body:Code}{w:E}
  (h:RoundIn F m P l f tmps assign body w R):RoundIn F g P l f tmps assign body w R:=⟨h.1,λc i _=>h.2 c i (λd h=>by rw[b] at h;cases h)⟩
def Eg{F:Fence}(f:F.depth=Z)(g:Nat){args:Array ZB}(h:YieldAt F m P l args W R):YieldAt F g P l args W R:=by obtain⟨fn,tmps,assign,body,b,hR⟩:=h;exact⟨fn,tmps,assign,body,b,Ef f hR⟩
def Eh:(Pg.info? 4).map (λi=>(i.zero,i.size,i.bytes))=T (T (.bool ZA),1,1):=by kernel_rfl
def bH (n:Nat):Array ZB:=madeCells (Value.bool ZA).cells n
def Bb (n:Nat)(hn:n<=1048576)(w:E):(Instr.makeSlice 104 (.int I (n:Int)) (.int I (n:Int))).run Pg w=.ok (Y (T (Q (J (U w)) 0 Z)) n n) (w.alloc (N (bH n) 4)):=by obtain⟨i,hi,hz⟩:=RH.1 Eh;simp only[LK] at hz;obtain⟨h1,h2,b⟩:=hz;have h:=run_make (P:=Pg) w 104 4 i _ underlying104 hi h1 I I n n (by omega) (YR _) (by rw[b];omega) (by omega);rw[h2] at h;simpa[bH] using h
def ux (n q:Nat)(h:q<n):(bH n)[q]?=T (.bool ZA):=by unfold bH madeCells;simp[Value.cells,h,Nat.mod_one]
def qj (W:E)(n q:Nat)(h:q<n):(W.alloc (N (bH n) 4)).cell? (Q (J (U W)) q Z)=T (.bool ZA)/\(W.alloc (N (bH n) 4)).frozen? (Q (J (U W)) q Z)=ZA:=by
 have e:=gM W (N (bH n) 4);refine⟨?_,?_⟩;{rw[cell_of_row _ _ _ _ _ _ e];exact ux n q h};{unfold World.frozen?;rw[e];simp}
def Ei (f:Below (J (U g)) g W):LSt g ((W.alloc (N (bH n) 4)).alloc (N #[Y (T (Q b off Z)) n j_,Y (T (Q (J (U W)) 0 Z)) n n,.func (.yield l) #[] #[]] 209)).drew (J (U W)) b off n j_ (J (U W)+1) (J (U W)) l (λ_=>ZA):=by
 have hz:(W.alloc (N (bH n) 4)).heap.size=J (U W)+1:=by simp
 have D:Below (J (U W)+1) (W.alloc (N (bH n) 4)) ((W.alloc (N (bH n) 4)).alloc (N #[Y (T (Q b off Z)) n j_,Y (T (Q (J (U W)) 0 Z)) n n,.func (.yield l) #[] #[]] 209)).drew:=(br.alloc (by omega) _).drew;refine⟨?_,?_,?_,λq i=>?_,((f.alloc f.size _).alloc (by simp;have:=f.size;omega) _).drew,by simp,by simp;omega,by omega,f.size,?_,?_⟩;{simp};{simp};{simp};{exact⟨(D.O (p:=(Q (J (U W)) q Z)) (eL _)).k (qj W n q i).1,(D.frozen (p:=(Q (J (U W)) q Z)) (eL _)).k (qj W n q i).2⟩};{exact(OfTy.new W _ _).eq (D.p _ (eL _))};{have h:=OfTy.new (W.alloc (N (bH n) 4)) #[Y (T (Q b off Z)) n j_,Y (T (Q (J (U W)) 0 Z)) n n,.func (.yield l) #[] #[]] 209;rw[hz] at h;exact h.eq rfl}
def Ej (f:Below (J (U g)) g W):LSt g ((A W (N #[Y (T (Q b off Z)) n j_,Y (T (Q (J (U W)+1) 0 Z)) n n,.func (.yield l) #[] #[]] 209)).alloc (N (bH n) 4)).drew (J (U W)) b off n j_ (J (U W)) (J (U W)+1) l (λ_=>ZA):=by
 have hz:J (U (A W (N #[Y (T (Q b off Z)) n j_,Y (T (Q (J (U W)+1) 0 Z)) n n,.func (.yield l) #[] #[]] 209)))=J (U W)+1:=by simp
 have D:Below (J (U W)+1) (A W (N #[Y (T (Q b off Z)) n j_,Y (T (Q (J (U W)+1) 0 Z)) n n,.func (.yield l) #[] #[]] 209)) ((A W (N #[Y (T (Q b off Z)) n j_,Y (T (Q (J (U W)+1) 0 Z)) n n,.func (.yield l) #[] #[]] 209)).alloc (N (bH n) 4)).drew:=(br.alloc (by omega) _).drew;refine⟨(D.O (p:=(Q (J (U W)) 0 Z)) (eL _)).k (by simp),(D.O (p:=(Q (J (U W)) 1 Z)) (eL _)).k (by simp),(D.O (p:=(Q (J (U W)) 2 Z)) (eL _)).k (by simp),λq i=>?_,((f.alloc f.size _).alloc (by simp;have:=f.size;omega) _).drew,by simp;omega,by simp,by omega,f.size,?_,?_⟩;{have h:=qj (A W (N #[Y (T (Q b off Z)) n j_,Y (T (Q (J (U W)+1) 0 Z)) n n,.func (.yield l) #[] #[]] 209)) n q i;rw[hz] at h;exact h};{have h:=OfTy.new (A W (N #[Y (T (Q b off Z)) n j_,Y (T (Q (J (U W)+1) 0 Z)) n n,.func (.yield l) #[] #[]] 209)) (bH n) 4;rw[hz] at h;exact h.eq rfl};{exact(OfTy.new W _ _).eq (D.p _ (eL _))}
def qk (v:ZB)(w:E)(f:Nat):CallsIn Fence.wide f Pg 95 #[.agg #[v]] w λe b=>e=ZI (.func (.func 137) #[] #[.pointer (T (Q (J (U w)) 0 Z))])/\b=A w (N #[v] 25):=by refine YX func95 rfl trivial ?_ rfl;simp only[ntmps95,QG,vF,IS,Nat.reduceAdd,Nat.reduceSub,QY,QZ,SY,RF,NS,PC];gi_wp2;go_ret;exact⟨rfl,rfl⟩
def uy (hT:ZO≠4/\ZO≠209)(o:E)(b off n j_ s B:Nat)(f:Nat->au)(w:E)(hA:gA f n)(hn1:1<=n)(hn:(n:Int)<=400)(V:Qk o b off n f)(hlk:∀p,p<n->(f p).f<=200)(j:Below (J (U o)) o w)(ZS:ZW w (Q s 0 Z)=T (Y (T (Q b off Z)) n j_))(u:s<J (U w)):SeqT2 ZO 4 Fence.wide B Pg 137 #[.pointer (T (Q s 0 Z))] (λx:Nat × Nat=>#[Value.int I (x.1:Int),Value.int I (x.2:Int)]) (λpre x=>x.1<n/\pre++[x] <+: aG f n) (J (U o)) (λg=>g=aG f n) (λpre=>pre <+: aG f n) w:=by
 intro l ZR ZP W C hJ ZT X ZY;have hl:=GY hT o (J (U W)) b off n j_;have G:=ae hl;clear hl;have S:=(C.O (p:=(Q s 0 Z)) u).k ZS;have aq:=λw=>Bb n (by omega) w;have hwb:IntKind.i64.wrap ((n:Int) - 1)=(n:Int) - 1:=by rw[nL];omega
 have ZQ:=ae hJ;have H:=ae ZT;have HY:=ae X;have H0:=ae ZY;have HA:=ae hA;have HF:=ae V;have K:=ae hlk;have i:=ae (j.k (C.P j.size));have ZN:s<J (U W):=lj u C.size;clear hJ ZT X ZY hA V hlk j C ZS u;refine YX func137 rfl trivial ?_ rfl;simp only[ntmps137,QG,vF,IS,Nat.reduceAdd,Nat.reduceSub,QY,QZ,SY,RF,NS,PC];have D:∀L M z,LSt o z (J (U W)) b off n j_ L M l (λ_=>ZA)->Below (J (U W)) W z->CallsIn Fence.wide (B - 1) Pg 138 #[.pointer (T (Q L 0 Z)),.int I ((n:Int) - 1),.int I 0] z λe t =>
   ∃r:Bool,e=ZI (.bool r)/\Hid ((∃g,g=aG f n/\ZR g t)\/(∃pre,pre <+: aG f n/\ZP pre t)):=by
  intro L M z P ZL;have h:=G.i L M l (aG f n) f ZR ZP HA hn HF K ZQ H (λm pre x W1 ZY h1 h2 h3=>Eg rfl m (HY pre x W1 ⟨ZY,h2⟩ h1 h3)) n (n - 1) 0 (λ_=>ZA) [] z (B - 1) (by omega) (by omega) (by omega) P rfl (ZQ _ _ _ H0 (Itr.q ZL ly  ly)) (by simp[aG]);rw[show((n - 1:Nat):Int)=(n:Int) - 1 by omega] at h;refine h.P λe t h=>?_;rcases h with⟨O,hj,_⟩|⟨O,q,hq,hx⟩
  ·exact⟨ZH,O,.inl ⟨_,rfl,by simpa[aG] using hj⟩⟩
  ·exact⟨ZA,O,.inr ⟨q,hq,by simpa using hx⟩⟩
 have y:=ae D;have D1:=ae (((BS W).alloc ly (N (bH n) 4)).alloc (by simp) (N #[Y (T (Q b off Z)) n j_,Y (T (Q (J (U W)) 0 Z)) n n,.func (.yield l) #[] #[]] 209)).drew;have D2:=ae (((BS W).alloc ly (N #[Y (T (Q b off Z)) n j_,Y (T (Q (J (U W)+1) 0 Z)) n n,.func (.yield l) #[] #[]] 209)).alloc (by simp) (N (bH n) 4)).drew;have hfw:∀f,Fence.wide.fn f=True:=λ_=>rfl;clear D G ZQ H HY H0 HA HF K;gi_upto_region 0 with fail;gi_cut [3] from 4 (λs3 wx=>∃L,s3=.pointer (T (Q L 0 Z))/\Hid (∃M,LSt o wx (J (U W)) b off n j_ L M l (λ_=>ZA))/\Hid (Below (J (U W)) W wx));case first =>
  have hsf:=λ(w:E) (a:Addr) (m:Mode)=>run_store Pg w a (.func (.yield l) #[] #[]) m rfl;gi_region_with fail;all_goals
   gi_wp2_with fail;gi_meet;first
    |exact⟨J (U W)+1,rfl,⟨J (U W),Ei i⟩,D1⟩
    |exact⟨J (U W),rfl,⟨J (U W)+1,Ej i⟩,D2⟩
 case rest =>
 obtain⟨L,rfl,ZM,R⟩:=hcut;have hB1:=(R.O (p:=(Q s 0 Z)) ZN).k S;have HC:Hid (CallsIn Fence.wide (B - 1) Pg 138 #[.pointer (T (Q L 0 Z)),.int I ((n:Int) - 1),.int I 0] wc λe t=>∃r:Bool,e=ZI (.bool r)/\Hid ((∃g,g=aG f n/\ZR g t)\/(∃pre,pre <+: aG f n/\ZP pre t))):=by obtain⟨M,P⟩:=ZM.i;exact y L M wc P R
 clear y ZM aq R i D1 D2 S;gi_wp2_with ((try refine⟨λh=>(by cases h),?_⟩);gi_at_call 138;refine HC.P ?_;rintro e W3⟨r,rfl,H3⟩);go_end0;exact⟨⟨_,rfl⟩,H3⟩
def oM (g:E)(b off n j_ i l:Nat)(f:Nat->au)(w:E)(s:gA f n)(hn1:1<=n)(hn:(n:Int)<=400)(r:Qk g b off n f)(hlk:∀p,p<n->(f p).f<=200)(j:Below (J (U g)) g w)(m:ZW w (Q i 0 Z)=T (Y (T (Q b off Z)) n j_))(o:i<J (U w)):DX Fence.wide l Pg 137 #[.pointer (T (Q i 0 Z))] (λx:Nat × Nat=>#[Value.int I (x.1:Int),Value.int I (x.2:Int)]) (λx=>x.1<n) (J (U g)) (λq=>q=aG f n) (λpre=>pre <+: aG f n) (aG f n).length w:=
 (uy (ZO:=58) ⟨by decide,by decide⟩ g b off n j_ i l f w s hn1 hn r hlk j m o).plain λpre x h=>⟨h.1,by have:=h.2.length_le;simp at this;omega⟩
attribute [local go_sem] Oper.semAt_some
def qn (h:bG i pre=-1):bG i (pre++[x])=if x.1=i+ZV pre then -1 else ((i+ZV pre:Nat):Int):=by
 induction pre generalizing i with
 |nil=>simp[bG]
 |cons y b f =>
  simp only[bG,PC] at h ⊢;split at h
  ·rename_i e;rw[eT e,f h];simp only[vF];have:i+1+ZV b=i+(ZV b+1):=by omega
   rw[this]
  {omega}
def uA{b:List (Nat × Nat)}(f:pre <+: b)(h:bG i pre≠-1):bG i b=bG i pre:=by
 induction pre generalizing i b with
 |nil=>exact absurd rfl h
 |cons y ys g =>
  obtain⟨t,rfl⟩:=f;simp only[bG,PC] at h ⊢;split;{rename_i e;rw[eT e] at h;exact g (YH _ _) h};{rfl}
def xa (h:bm f pre=-1):bm f (pre++[x])=if (f x.1).m=3/\60<=x.2 then (x.1:Int) else -1:=by
 induction pre with
 |nil=>simp[bm]
 |cons y ys b =>
  simp only[bm,PC] at h ⊢;split at h;{omega};{rename_i e;rw[eI e,b h]}
def tL{b:List (Nat × Nat)}(g:pre <+: b)(h:bm f pre≠-1):bm f b=bm f pre:=by
 induction pre generalizing b with
 |nil=>exact absurd rfl h
 |cons y ys i =>
  obtain⟨t,rfl⟩:=g;simp only[bm,PC] at h ⊢;split;{rfl};{rename_i e;rw[eI e] at h;exact i (YH _ _) h}
structure Jo (W:E)(h:Nat)(v:ZB):Prop where
 size:J (U W)=h+4
 r:ZW W (Q (h+1) 0 Z)=T (.int I 0)/\ZX W (Q (h+1) 0 Z)=ZA
 t:ZW W (Q (h+1+1) 0 Z)=T (.int I 0)/\ZX W (Q (h+1+1) 0 Z)=ZA
 a:ZW W (Q (h+1+1+1) 0 Z)=T v
 a0:ZW W (Q h 0 Z)=T v
def zk (w:E)(v:ZB)(t u:ZK):Jo (A (A (A (A w (N #[v] t)) (N #[.int I 0] u)) (N #[.int I 0] u)) (N #[v] t)) (J (U w)) v:=by
 have f:J (U (A w (N #[v] t)))=J (U w)+1:=by simp
 have b:J (U (A (A w (N #[v] t)) (N #[.int I 0] u)))=J (U w)+1+1:=by simp
 have g:J (U (A (A (A w (N #[v] t)) (N #[.int I 0] u)) (N #[.int I 0] u)))=J (U w)+1+1+1:=by simp
 have j:Below (J (U w)+1) (A w (N #[v] t)) (A (A (A (A w (N #[v] t)) (N #[.int I 0] u)) (N #[.int I 0] u)) (N #[v] t)):=((br.alloc (by omega) _).alloc (by omega) _).alloc (by omega) _;have h:Below (J (U w)+1+1) (A (A w (N #[v] t)) (N #[.int I 0] u)) (A (A (A (A w (N #[v] t)) (N #[.int I 0] u)) (N #[.int I 0] u)) (N #[v] t)):=(br.alloc (by omega) _).alloc (by omega) _;have i:Below (J (U w)+1+1+1) (A (A (A w (N #[v] t)) (N #[.int I 0] u)) (N #[.int I 0] u)) (A (A (A (A w (N #[v] t)) (N #[.int I 0] u)) (N #[.int I 0] u)) (N #[v] t)):=br.alloc (by omega) _;refine⟨by simp,⟨?_,?_⟩,⟨?_,?_⟩,?_,(j.O (p:=(Q (J (U w)) 0 Z)) (eL _)).k (by simp)⟩;{refine(h.O (p:=(Q (J (U w)+1) 0 Z)) (eL _)).k ?_;rw[<-f];clear j h i f b g;generalize A w (N #[v] t)=W;simp};{refine(h.frozen (p:=(Q (J (U w)+1) 0 Z)) (eL _)).k ?_;rw[<-f];clear j h i f b g;generalize A w (N #[v] t)=W;simp};{refine(i.O (p:=(Q (J (U w)+1+1) 0 Z)) (eL _)).k ?_;rw[<-b];clear j h i f b g;generalize A (A w (N #[v] t)) (N #[.int I 0] u)=W;simp};{refine(i.frozen (p:=(Q (J (U w)+1+1) 0 Z)) (eL _)).k ?_;rw[<-b];clear j h i f b g;generalize A (A w (N #[v] t)) (N #[.int I 0] u)=W;simp};{rw[<-g];clear j h i f b g;generalize A (A (A w (N #[v] t)) (N #[.int I 0] u)) (N #[.int I 0] u)=W;simp}
def tM (b off n j_:Nat)(f:Nat->au)(w:E)(V:gA f n)(hn1:1<=n)(hn:(n:Int)<=400)(H:Qk w b off n f)(hlk:∀p,p<n->(f p).f<=200)(hlen:(aG f n).length<=400):Calls Pg 125 #[.agg #[Y (T (Q b off Z)) n j_]] w λe X=>e=ZI (.int I (bG 0 (aG f n)))/\Below (J (U w)) w X:=by
 refine(XU (n:=3)).1 ?_;have HF:=ae H;have HA:=ae V;have ZM:=ae hlk;clear H V hlk;have ZS:=((((BS w).alloc ly (N #[Y (T (Q b off Z)) n j_] 25)).alloc (by simp) (N #[.int I 0] 3)).alloc (by simp;omega) (N #[.int I 0] 3)).alloc (by simp;omega) (N #[Y (T (Q b off Z)) n j_] 25);have ZO:=ae ZS;clear ZS;have z:=ae (zk w (Y (T (Q b off Z)) n j_) 25 3);refine callsIn_of_wp_marks func125 rfl trivial ?_ rfl;simp only[ntmps125,QG,vF,IS,Nat.reduceAdd,Nat.reduceSub,QY,QZ,SY,RF,NS,PC];gi_wp2_with (refine⟨trivial,?_⟩;gi_at_call 95;refine(qk _ _ _).P ?_;rintro e X⟨rfl,rfl⟩);generalize World.alloc (World.alloc (World.alloc (World.alloc w _) _) _) _=W at ZO z ⊢;have hsz:=z.size;obtain⟨L,M⟩:=z.r;obtain⟨ZR,O⟩:=z.t;refine jI (F:=Fence.wide) rfl (by omega) (gf:=137) (lb:=#[.pointer (T (Q (J (U w)+1+1+1) 0 Z))]) rfl trivial (enters_of func137 (by kernel_rfl) rfl) (base:=J (U w)) (by omega)
  (oM w b off n j_ (J (U w)+1+1+1) (3 - 1) f W HA hn1 hn HF ZM ZO z.a (by omega)) br (λ_=>rfl)
  (λpre j=>ZW j (Q (J (U w)+1+1) 0 Z)=T (.int I (ZV pre:Int))/\ZX j (Q (J (U w)+1+1) 0 Z)=ZA/\ZW j (Q (J (U w)+1) 0 Z)=T (.int I 0)/\ZX j (Q (J (U w)+1) 0 Z)=ZA/\Hid (bG 0 pre=-1)/\Hid (Below (J (U w)) w j))
  (λc pre j=>c=.ret/\ZW j (Q (J (U w)+1) 0 Z)=T (.int I (bG 0 pre))/\Hid (bG 0 pre≠-1)/\Hid (Below (J (U w)) w j))
  (λs ZY B h i=>⟨(i.O (p:=(Q (J (U w)+1+1) 0 Z)) (by show (J (U w))+1+1<J (U W);omega)).k h.1,(i.frozen (p:=(Q (J (U w)+1+1) 0 Z)) (by show (J (U w))+1+1<J (U W);omega)).k h.2.1,(i.O (p:=(Q (J (U w)+1) 0 Z)) (by show (J (U w))+1<J (U W);omega)).k h.2.2.1,(i.frozen (p:=(Q (J (U w)+1) 0 Z)) (by show (J (U w))+1<J (U W);omega)).k h.2.2.2.1,h.2.2.2.2.1,h.2.2.2.2.2.k (i.P (by omega))⟩)
  (λc s ZY B h i=>⟨h.1,(i.O (p:=(Q (J (U w)+1) 0 Z)) (by show (J (U w))+1<J (U W);omega)).k h.2.1,h.2.2.1,h.2.2.2.k (i.P (by omega))⟩)
  ⟨ZR,O,L,M,rfl,ZO⟩
  (λx=>{ tmps:=#[.agg #[Y (T (Q b off Z)) n j_],.pointer (T (Q (J (U w)) 0 Z)),.pointer (T (Q (J (U w)+1) 0 Z)),.pointer (T (Q (J (U w)+1+1) 0 Z)),.int I (x.1:Int),.agg #[Y (T (Q b off Z)) n j_],.func (.func 137) #[] #[.pointer (T (Q (J (U w)+1+1+1) 0 Z))],.int I (x.1:Int),.int I (x.2:Int),undef,undef,undef,undef,undef,undef],defers:=[] }) ?assign ?body ?done ?stop
 case assign =>intro l x W K o;gi_wp2;exact o
 case body =>
  rintro l pre x g _⟨hc,H,y,ZQ,u,q⟩ hlt hz;clear L M ZR O;have hpl:(ZV pre:Int)<=1048576:=by omega
  by_cases hx:(x.1:Int)=(ZV pre:Int)
  ·have D:bG 0 (pre++[x])=-1:=by rw[qn u.i,eT (by omega)]
   have m:=ae D;clear D;have R:=ae (Upd.setCell (P:=λk=>J (U w)<=k/\k<J (U W)) g (p:=(Q (J (U w)+1+1) 0 Z)) ⟨by show _<=_+1+1;omega,by show _+1+1<_;omega⟩ (.int I ((ZV pre:Int)+1)));have ZT:=ae (q.setCell (p:=(Q (J (U w)+1+1) 0 Z)) (by show _<=_+1+1;omega) (.int I ((ZV pre:Int)+1)));have c1:ZW (ZU g (Q (J (U w)+1+1) 0 Z) (.int I ((ZV pre:Int)+1))) (Q (J (U w)+1+1) 0 Z)=T (.int I ((pre++[x]).length:Int)):=by rw[BO _ _ _ (by rw[hc];rfl)];simp
   have c2:ZW (ZU g (Q (J (U w)+1+1) 0 Z) (.int I ((ZV pre:Int)+1))) (Q (J (U w)+1) 0 Z)=T (.int I 0):=by rw[sq _ _ _ _ (by simp)];exact y
   have C:=ae c1;have C2:=ae c2;clear c1 c2;gi_wp2;exact⟨R,C,by simpa using H,C2,by simpa using ZQ,m,ZT⟩
  ·have D:bG 0 (pre++[x])=(ZV pre:Int):=by rw[qn u.i,eI (by omega)];simp
   have m:=ae D;clear D;have R:=ae (Upd.setCell (P:=λk=>J (U w)<=k/\k<J (U W)) g (p:=(Q (J (U w)+1) 0 Z)) ⟨by show _<=_+1;omega,by show _+1<_;omega⟩ (.int I (ZV pre:Int)));have ZT:=ae (q.setCell (p:=(Q (J (U w)+1) 0 Z)) (by show _<=_+1;omega) (.int I (ZV pre:Int)));have C:=ae (BO g (Q (J (U w)+1) 0 Z) (.int I (ZV pre:Int)) (by rw[y];rfl));gi_wp2;exact⟨R,rfl,by rw[m.i];exact C,by show _≠_;rw[m.i];omega,ZT⟩
 case done =>rintro ZN ys g S rfl⟨_,_,y,ZQ,u,q⟩ o;have ZL:=ae ((KeepsOthers.setCell g (Q (J (U w)+1) 0 Z) (.int I (-1))).same ZN _ o rfl);have ZT:=ae (q.setCell (p:=(Q (J (U w)+1) 0 Z)) (by show _<=_+1;omega) (.int I (-1)));have C:=ae (BO g (Q (J (U w)+1) 0 Z) (.int I (-1)) (by rw[y];rfl));gi_wp2;refine⟨by simp,.inl ⟨_,_,rfl,run_takeDeferred ZL,?_⟩⟩;have G:=dO (n:=J (U W)) (ZU g (Q (J (U w)+1) 0 Z) (.int I (-1))) S (CV.1 ZL).1 (.deferred Z);have c:=(G.O (p:=(Q (J (U w)+1) 0 Z)) (by show (J (U w))+1<J (U W);omega)).k C;exact⟨.int I (-1),by simp[results,results125,go_sem,c],by rw[u.i],ZT.k (G.P (by omega))⟩
 case stop =>rintro ZN c pre g S ZP⟨rfl,y,u,q⟩ o;gi_wp2;refine⟨by simp,.inl ⟨_,_,rfl,run_takeDeferred o,?_⟩⟩;have G:=dO (n:=J (U W)) g S (CV.1 o).1 (.deferred Z);have c:=(G.O (p:=(Q (J (U w)+1) 0 Z)) (by show (J (U w))+1<J (U W);omega)).k y;exact⟨.int I (bG 0 pre),by simp[results,results125,go_sem,c],by rw[uA ZP u.i],q.k (G.P (by omega))⟩
structure Jp (W:E)(h:Nat)(v:ZB):Prop where
 size:J (U W)=h+3
 r:ZW W (Q (h+1) 0 Z)=T (.int I 0)/\ZX W (Q (h+1) 0 Z)=ZA
 a:ZW W (Q (h+1+1) 0 Z)=T v
 a0:ZW W (Q h 0 Z)=T v
def zm (w:E)(v:ZB)(t u:ZK):Jp (A (A (A w (N #[v] t)) (N #[.int I 0] u)) (N #[v] t)) (J (U w)) v:=by
 have b:J (U (A w (N #[v] t)))=J (U w)+1:=by simp
 have f:J (U (A (A w (N #[v] t)) (N #[.int I 0] u)))=J (U w)+1+1:=by simp
 have h:Below (J (U w)+1) (A w (N #[v] t)) (A (A (A w (N #[v] t)) (N #[.int I 0] u)) (N #[v] t)):=(br.alloc (by omega) _).alloc (by omega) _;have g:Below (J (U w)+1+1) (A (A w (N #[v] t)) (N #[.int I 0] u)) (A (A (A w (N #[v] t)) (N #[.int I 0] u)) (N #[v] t)):=br.alloc (by omega) _;refine⟨by simp,⟨?_,?_⟩,?_,(h.O (p:=(Q (J (U w)) 0 Z)) (eL _)).k (by simp)⟩;{refine(g.O (p:=(Q (J (U w)+1) 0 Z)) (eL _)).k ?_;rw[<-b];clear h g b f;generalize A w (N #[v] t)=W;simp};{refine(g.frozen (p:=(Q (J (U w)+1) 0 Z)) (eL _)).k ?_;rw[<-b];clear h g b f;generalize A w (N #[v] t)=W;simp};{rw[<-f];clear h g b f;generalize A (A w (N #[v] t)) (N #[.int I 0] u)=W;simp}
def xc (b off n j_:Nat)(f:Nat->au)(w:E)(ZN:gA f n)(hn1:1<=n)(hn:(n:Int)<=400)(ZO:Qk w b off n f)(hlk:∀p,p<n->(f p).f<=200):Calls Pg 126 #[.agg #[Y (T (Q b off Z)) n j_]] w λe V=>e=ZI (.int I (bm f (aG f n)))/\Below (J (U w)) w V:=by
 refine(XU (n:=3)).1 ?_;have ZP:=ae ZO;have HA:=ae ZN;have aq:=ae hlk;clear ZO ZN hlk;obtain⟨W,z⟩:∃W:E,A (A (A w (N #[Y (T (Q b off Z)) n j_] 25)) (N #[.int I 0] 3)) (N #[Y (T (Q b off Z)) n j_] 25)=W:=⟨_,rfl⟩
 obtain⟨t,-,-,-,-⟩:=nb3 z;replace t:=t.i;have G:=ae z;clear z;have ZM:=ae t;clear t;have y:=ae (zm w (Y (T (Q b off Z)) n j_) 25 3);refine callsIn_of_wp_marks func126 rfl trivial ?_ rfl;simp only[ntmps126,QG,vF,IS,Nat.reduceAdd,Nat.reduceSub,QY,QZ,SY,RF,NS,PC];gi_wp2_with (refine⟨trivial,?_⟩;gi_at_call 95;refine(qk _ _ _).P ?_;rintro e V⟨rfl,rfl⟩);rw[G.i] at y ⊢;clear G;have hsz:=y.size;obtain⟨H,ZS⟩:=y.r;have X:=y.a0;refine jI (F:=Fence.wide) rfl (by omega) (gf:=137) (lb:=#[.pointer (T (Q (J (U w)+1+1) 0 Z))]) rfl trivial (enters_of func137 (by kernel_rfl) rfl) (base:=J (U w)) (by omega)
  (oM w b off n j_ (J (U w)+1+1) (3 - 1) f W HA hn1 hn ZP aq ZM y.a (by omega)) br (λ_=>rfl)
  (λpre q=>ZW q (Q (J (U w)) 0 Z)=T (Y (T (Q b off Z)) n j_)/\ZW q (Q (J (U w)+1) 0 Z)=T (.int I 0)/\ZX q (Q (J (U w)+1) 0 Z)=ZA/\Hid (bm f pre=-1)/\Hid (Below (J (U w)) w q))
  (λc pre q=>c=.ret/\ZW q (Q (J (U w)+1) 0 Z)=T (.int I (bm f pre))/\Hid (bm f pre≠-1)/\Hid (Below (J (U w)) w q))
  (λs ZY B h m=>⟨(m.O (p:=(Q (J (U w)) 0 Z)) (by show (J (U w))<J (U W);omega)).k h.1,(m.O (p:=(Q (J (U w)+1) 0 Z)) (by show (J (U w))+1<J (U W);omega)).k h.2.1,(m.frozen (p:=(Q (J (U w)+1) 0 Z)) (by show (J (U w))+1<J (U W);omega)).k h.2.2.1,h.2.2.2.1,h.2.2.2.2.k (m.P (by omega))⟩)
  (λc s ZY B h m=>⟨h.1,(m.O (p:=(Q (J (U w)+1) 0 Z)) (by show (J (U w))+1<J (U W);omega)).k h.2.1,h.2.2.1,h.2.2.2.k (m.P (by omega))⟩)
  ⟨X,H,ZS,rfl,ZM⟩
  (λx=>{ tmps:=#[.agg #[Y (T (Q b off Z)) n j_],.pointer (T (Q (J (U w)) 0 Z)),.pointer (T (Q (J (U w)+1) 0 Z)),.int I (x.1:Int),.int I (x.2:Int),.agg #[Y (T (Q b off Z)) n j_],.func (.func 137) #[] #[.pointer (T (Q (J (U w)+1+1) 0 Z))],.int I (x.1:Int),.int I (x.2:Int),undef,undef,undef,undef,undef,undef,undef,undef,undef,undef,undef,undef],defers:=[] }) ?assign ?body ?done ?stop
 case assign =>intro l x W K u;gi_wp2;exact u
 case body =>
  rintro l pre x j S⟨ha,o,ZT,D,i⟩ hlt hz;clear H ZS X;obtain⟨_,p1,_⟩:=(ZP.aa i ly).2 x.1 S;have hx0:(0:Int)<=(x.1:Int):=by omega
  have hxn:(x.1:Int)<n:=by omega
  have O:=ae (xa (x:=x) D);have U1:=ae (Upd.setCell (P:=λk=>J (U w)<=k/\k<J (U W)) j (p:=(Q (J (U w)+1) 0 Z)) ⟨by show _<=_+1;omega,by show _+1<_;omega⟩ (.int I (x.1:Int)));have ZQ:=ae (i.setCell (p:=(Q (J (U w)+1) 0 Z)) (by show _<=_+1;omega) (.int I (x.1:Int)));have L:=ae (BO j (Q (J (U w)+1) 0 Z) (.int I (x.1:Int)) (by rw[o];rfl));cases h3:((f x.1).m == 3) with
  |false =>
   have g:Hid (bm f (pre++[x])=-1):=by show _=_;rw[O.i,eI (by intro h;rw[h.1] at h3;simp at h3)]
   gi_wp2;exact⟨Upd.refl _ _,ha,o,ZT,g,i⟩
  |true =>
   by_cases h6:(60:Int)<=(x.2:Int)
   ·have g:Hid (bm f (pre++[x])=(x.1:Int)):=by show _=_;rw[O.i,eT ⟨by simpa using h3,by omega⟩]
    gi_wp2;exact⟨U1,rfl,by rw[g.i];exact L,by show _≠_;rw[g.i];omega,ZQ⟩
   ·have g:Hid (bm f (pre++[x])=-1):=by show _=_;rw[O.i,eI (by intro h;omega)]
    gi_wp2;exact⟨Upd.refl _ _,ha,o,ZT,g,i⟩
 case done =>rintro R ys j M rfl⟨_,o,ZT,D,i⟩ u;have ZL:=ae ((KeepsOthers.setCell j (Q (J (U w)+1) 0 Z) (.int I (-1))).same R _ u rfl);have ZQ:=ae (i.setCell (p:=(Q (J (U w)+1) 0 Z)) (by show _<=_+1;omega) (.int I (-1)));have L:=ae (BO j (Q (J (U w)+1) 0 Z) (.int I (-1)) (by rw[o];rfl));gi_wp2;refine⟨by simp,.inl ⟨_,_,rfl,run_takeDeferred ZL,?_⟩⟩;have C:=dO (n:=J (U W)) (ZU j (Q (J (U w)+1) 0 Z) (.int I (-1))) M (CV.1 ZL).1 (.deferred Z);have c:=(C.O (p:=(Q (J (U w)+1) 0 Z)) (by show (J (U w))+1<J (U W);omega)).k L;exact⟨.int I (-1),by simp[results,results126,go_sem,c],by rw[D.i],ZQ.k (C.P (by omega))⟩
 case stop =>rintro R c pre j M ZR⟨rfl,o,D,i⟩ u;gi_wp2;refine⟨by simp,.inl ⟨_,_,rfl,run_takeDeferred u,?_⟩⟩;have C:=dO (n:=J (U W)) j M (CV.1 u).1 (.deferred Z);have c:=(C.O (p:=(Q (J (U w)+1) 0 Z)) (by show (J (U w))+1<J (U W);omega)).k o;exact⟨.int I (bm f pre),by simp[results,results126,go_sem,c],by rw[tL ZR D.i],i.k (C.P (by omega))⟩
def qp (g:Nat->Bool)(n:Nat):aQ g n=-1\/0<=aQ g n:=by
 induction n with
 |zero=>exact .inl rfl
 |succ k b =>
  rw[aQ];split;{split;{exact .inl rfl};{exact .inr (by omega)}};{exact b}
def Ek (i:Nat)(b:List (Nat × Nat)):bG i b=-1\/0<=bG i b:=by
 induction b generalizing i with
 |nil=>exact .inl rfl
 |cons x b f =>
  rw[bG];split;{exact f _};{exact .inr (by omega)}
def sD (f:Nat->au)(b:List (Nat × Nat)):bm f b=-1\/0<=bm f b:=by
 induction b with
 |nil=>exact .inl rfl
 |cons x b g =>
  rw[bm];split;{exact .inr (by omega)};{exact g}
def pk (h:aQ (bw f) n=-1):∀p,p<n->(f p).f<=200:=by
 intro p b;have h1:=eN h p b;simp only[bw,j6,kindOk] at h1;obtain⟨_,h2⟩:=h1;split at h2;{simp[aY] at h2;omega};{split at h2;{simp[aY] at h2;omega};{split at h2;{simp only[cC,j6,nD] at h2;omega};{cases h2}}}
def El (h:aQ (bw f) n=-1):∀p,p<n->(f p).e.size<=maxLen:=by intro p b;have h1:=eN h p b;simp only[bw,aA,j6,nD] at h1;unfold maxLen;omega
def kI (i:gA f n)(hn:1<=n):(aG f n).length<=n:=by
 have h:=(xN i n (n - 1) 0 (λ_=>ZA) (by omega) (by omega) rfl).num;have h2:=Iz (lst f n (n - 1) 0 (λ_=>ZA)).1 n;have b:∀k,y_ (λ_=>ZA) k=0:=by
  intro k;induction k with
  |zero=>rfl
  |succ j g=>rw[y_,g];rfl
 rw[b] at h;unfold aG;omega
structure Jq (w:E)(b:Nat)(v0 v1 v2 v3:ZB):Prop where
 lt:b<J (U w)
 c0:ZW w (Q b 0 Z)=T v0
 c1:ZW w (Q b 1 Z)=T v1
 c2:ZW w (Q b 2 Z)=T v2
 c3:ZW w (Q b 3 Z)=T v3
def G8 (w:E)(f g b h:ZB)(t:ZK):Jq (A w (N #[f,g,b,h] t)) (J (U w)) f g b h:=⟨by simp,by simp,by simp,by simp,by simp⟩
def xd (a:O_)(n j_:Nat)(f:Nat->au)(w:E)(hn:(n:Int)<=1048576)(ZN:SlDeed w a n f)(O:(n:Int)<=j_)(D:∀i,i<n->cX (f i))(V:Tab w):Calls Pg 86 #[.agg #[Y a n j_]] w λe w'=>e=ZI (.tuple #[.int I (dE f n).1,.int I (dE f n).2])/\Below (J (U w)) w w':=by
 have R:=ae ZN;have HM:=ae D;have ZL:=ae V;clear ZN D V;have H:=ae ((BS w).alloc ly (N #[Y a n j_] 25));have ZM:ZW (A w (N #[Y a n j_] 25)) (Q (J (U w)) 0 Z)=T (Y a n j_):=by simp
 obtain⟨c1,c2,o⟩:∃c1 c2,dE f n=(c1,c2):=⟨_,_,rfl⟩
 rw[o];have y:=ae o;clear o;by_cases S:(n:Int)=0
 ·have g:c1=1/\c2=0:=by have:=y.i;unfold dE at this;rw[eT (.inl (by omega))] at this;simp only[LK] at this;omega
  clear y;obtain⟨g,q⟩:=g;subst g q;obtain rfl:n=0:=by omega
  go_enter func86,ntmps86;go_wp2;go_ret2;exact⟨rfl,H⟩
 by_cases h4:(400:Int)<(n:Int)
 ·have g:c1=1/\c2=0:=by have:=y.i;unfold dE at this;rw[eT (.inr (by omega))] at this;simp only[LK] at this;omega
  clear y;obtain⟨g,q⟩:=g;subst g q;have ZP:((n:Int) == 0)=ZA:=by simpa using S
  go_enter func86,ntmps86;go_wp2;go_ret2;exact⟨rfl,H⟩
 have u:Hid ((if aQ (bw f) n≠-1 then ((2:Int),aQ (bw f) n) else if aQ (λp=>bj f p p) n≠-1 then (3,aQ (λp=>bj f p p) n) else if bG 0 (aG f n)≠-1 then (4,bG 0 (aG f n)) else if bm f (aG f n)≠-1 then (5,bm f (aG f n)) else (0,0))=(c1,c2)):=by have:=y.i;unfold dE at this;rw[eI (by omega)] at this;exact this
 clear y;obtain⟨b,off,rfl,C⟩:=R.resolve_left (by omega);have G:=ae C;have ZP:((n:Int) == 0)=ZA:=by simpa using S
 clear R C;have t:(n:Int)<=400:=by omega
 have L:=ae (H.alloc (by simp) (N #[.func (.func 123) #[] #[],.func (.func 124) #[] #[],.func (.func 125) #[] #[],.func (.func 126) #[] #[]] 194));go_enter func86,ntmps86;go_wp2;have K:J (U (A w (N #[Y (T (Q b off Z)) n j_] 25)))=J (U w)+1:=by simp
 have r:=ae (G8 (A w (N #[Y (T (Q b off Z)) n j_] 25)) (.func (.func 123) #[] #[]) (.func (.func 124) #[] #[]) (.func (.func 125) #[] #[]) (.func (.func 126) #[] #[]) 194);rw[K] at r;have ZO:=(((a8 (J (U w)+1) (A w (N #[Y (T (Q b off Z)) n j_] 25))).alloc (by omega) (N #[.func (.func 123) #[] #[],.func (.func 124) #[] #[],.func (.func 125) #[] #[],.func (.func 126) #[] #[]] 194)).O (p:=(Q (J (U w)) 0 Z)) (eL _)).k ZM;clear K ZM H;generalize World.alloc (World.alloc w _) _=W at L r ZO ⊢;have x:J (U w)+1<J (U W):=r.lt;go_loopw [21] (λi wr=>∃k:Nat,k<=4/\i=.int I k/\Hid (1<=k->aQ (bw f) n=-1)/\Hid (2<=k->aQ (λp=>bj f p p) n=-1)/\Hid (3<=k->bG 0 (aG f n)=-1)/\Hid (4<=k->bm f (aG f n)=-1)/\Hid (Below (J (U W)) W wr)) (λi _=>4 - (intOf i).toNat);case atStart=>exact⟨0,by omega,rfl,λh=>by omega,λh=>by omega,λh=>by omega,λh=>by omega,a8 _ _⟩
 case round =>
  obtain⟨k,hk,rfl,j,ZR,P,H4,m⟩:=hrel;have k2:=(m.O (p:=(Q (J (U w)) 0 Z)) (by show (J (U w))<_;omega)).k ZO;have l:=ae (L.k (m.P L.size));by_cases hlt:k<4
  ·rcases(show(True/\k=0)\/(True/\k=1)\/(True/\k=2)\/(True/\k=3) by rcases(show k=0\/k=1\/k=2\/k=3 by omega) with h|h|h|h<;>simp[h]) with⟨M0,rfl⟩|⟨M1,rfl⟩|⟨M2,rfl⟩|⟨M3,rfl⟩
   all_goals
    first
     |(guard_hyp M0;have M:=(m.O (p:=(Q (J (U w)+1) 0 Z)) x).k r.c0;have ZY:=ae (tE b off n j_ f _ t (G.aa l ly) O HM (ZL.aa l ZL.1));have z:=ae (qp _ _:aQ (bw f) n=-1\/0<=aQ (bw f) n);obtain⟨X,hX⟩:∃X,X=aQ (bw f) n:=⟨_,rfl⟩)
     |(guard_hyp M1;have M:=(m.O (p:=(Q (J (U w)+1) 1 Z)) x).k r.c1;have ZY:=ae (tK b off n j_ f _ t (G.aa l ly) (El (j (by omega))));have z:=ae (qp _ _:aQ (λp=>bj f p p) n=-1\/0<=aQ (λp=>bj f p p) n);obtain⟨X,hX⟩:∃X,X=aQ (λp=>bj f p p) n:=⟨_,rfl⟩)
     |(guard_hyp M2;have M:=(m.O (p:=(Q (J (U w)+1) 2 Z)) x).k r.c2;have ZY:=ae (tM b off n j_ f _ (jE (j (by omega))) (by omega) t (G.aa l ly) (pk (j (by omega))) (by have:=kI (jE (j (by omega))) (n:=n) (by omega);omega));have z:=ae (Ek _ _:bG 0 (aG f n)=-1\/0<=bG 0 (aG f n));obtain⟨X,hX⟩:∃X,X=bG 0 (aG f n):=⟨_,rfl⟩)
     |(guard_hyp M3;have M:=(m.O (p:=(Q (J (U w)+1) 3 Z)) x).k r.c3;have ZY:=ae (xc b off n j_ f _ (jE (j (by omega))) (by omega) t (G.aa l ly) (pk (j (by omega))));have z:=ae (sD _ _:bm f (aG f n)=-1\/0<=bm f (aG f n));obtain⟨X,hX⟩:∃X,X=bm f (aG f n):=⟨_,rfl⟩)
    rw[<-hX] at ZY z;have ZT:=ae hX;clear hX;go_wp2_with fail;refine ZY.P ?_;rintro e w2⟨rfl,ZQ⟩;have G1:=ae (l.k (ZQ.P l.size));have s:=ae (m.k (ZQ.P m.size));clear ZQ ZY;by_cases B:X=-1
    ·have ZS:=ae (ZT.c.k B)
     have hd:decide (0<=X)=ZA:=by rw[B];rfl
     clear B;go_wp2;first
      |(guard_hyp M0;exact⟨⟨0+1,by omega,by go_num,λ_=>ZS,λh=>by omega,λh=>by omega,λh=>by omega,s⟩,by simp[intOf]⟩)
      |(guard_hyp M1;exact⟨⟨1+1,by omega,by go_num,λ_=>j (by omega),λ_=>ZS,λh=>by omega,λh=>by omega,s⟩,by simp[intOf]⟩)
      |(guard_hyp M2;exact⟨⟨2+1,by omega,by go_num,λ_=>j (by omega),λ_=>ZR (by omega),λ_=>ZS,λh=>by omega,s⟩,by simp[intOf]⟩)
      |(guard_hyp M3;exact⟨⟨3+1,by omega,by go_num,λ_=>j (by omega),λ_=>ZR (by omega),λ_=>P (by omega),λ_=>ZS,s⟩,by simp[intOf]⟩)
    ·have g:=u.i
     (try rw[eI (by rw[j.i (by omega)];simp)] at g)
     (try rw[eI (by rw[ZR.i (by omega)];simp)] at g)
     (try rw[eI (by rw[P.i (by omega)];simp)] at g)
     rw[eT (by rw[<-ZT.i];exact B),<-ZT.i] at g;simp only[LK] at g;have hge:0<=X:=z.resolve_left B;obtain⟨g,q⟩:=g;clear u B z;subst g q;go_wp2;go_ret2;exact⟨rfl,G1⟩
  ·obtain rfl:k=4:=by omega
   have g:c1=0/\c2=0:=by have:=u.i;rw[eI (by rw[j.i (by omega)];simp),eI (by rw[ZR.i (by omega)];simp),eI (by rw[P.i (by omega)];simp),eI (by rw[H4.i (by omega)];simp)] at this;simp only[LK] at this;omega
   obtain⟨g,q⟩:=g;clear u;subst g q;go_wp2;go_ret2;exact⟨rfl,l⟩
