import Derived.Test.YtamacmnikdejeaaGreatDoorMC
import Derived.RangeFuncNested
import Derived.RangeFuncBound
import Derived.RangeFuncCalls
import Derived.RangeFuncLeaves
import Derived.Shelf.Abstract
import Derived.Shelf.RegionOpen
import Derived.OwnWalkIn
import Derived.TacticsInMore
import Derived.LoopNIn
import Derived.LoopIn
import Derived.Sort.QuietIn
import Derived.Sort.BigQuietIn
import Derived.Sort.CutIn
import Derived.Test.YtamacmnikdejeaaGreatDoorME
import Derived.Maps.OwnSet
import Derived.Maps.Views
import Derived.StringKeys
set_option maxRecDepth 100000
set_option maxHeartbeats 4000000
set_option linter.unusedSimpArgs false
open Go renaming Addr.mk->Q,Value.slice->Y,Obj.cells->N,IntKind.i64->I,World->E,Value->ZB,TypeId->ZH,Ending.returned->ZF,World.heap->U,World.alloc->A,World.cell?->z,Proofs.Tryz.prog->Pg
open Option renaming none->Z,some->T
open Bool renaming false->ZA,true->ZD
open Array renaming size->J
namespace Go.Proofs.YtamacmnikdejeaaGreatDoor.Vp
open Tryz RowKit
variable {n l b off cap n1 L M i m:Nat}{W g:E}{f:Nat->au}{s:Nat->Bool}{pre:List (Nat × Nat)}{ZL:ZH}{P:Program}{R:Ending->E->Prop}{x:Nat × Nat}
theorem EK{k:Nat}{D:DataW Unit}(b:Maps.IsMap D)(h:∀p,Maps.has D (.string (f p).e.data.toList)=!aR f p k)(d:DataW Unit):∀p,Maps.has (D.put (.string (f k).e.data.toList) d) (.string (f p).e.data.toList)=!aR f p (k+1):=by
 intro p;rw[aR,Bool.not_and,<-h p,Bool.not_not];by_cases e:(f p).e.data.toList=(f k).e.data.toList;{rw[e,Maps.has_put_same b (by simp[WideAt.IsKeyLit])];simp[LF,e]}
 ·rw[Maps.has_put_other (by simpa using e)];have:((f k).e.toList == (f p).e.toList)=ZA:=by simpa[LF] using λh=>e (by rw[h])
  rw[this];simp
theorem sE (b off n cap:Nat)(f:Nat->au)(w:E)(hn:(n:Int)<=400)(ZN:RowDeed w b off n f)(M:∀i,i<n->(f i).e.size<=maxLen):Calls Pg 133 #[.agg #[Y (T (Q b off Z)) n cap]] w λe w'=>e=ZF (.int I (aI (λp=>aR f p p) n))/\Below (J (U w)) w w':=by
 have HF:=ae ZN;have ZI:=ae M;clear ZN M;have O:=ae (((BS w).alloc ly (N #[Y (T (Q b off Z)) n cap] 25)).alloc (by simp) (.map #[] 0));have C:=ae (World.ownsMap_made (A w (N #[Y (T (Q b off Z)) n cap] 25)) Pg 9 (plainElem (H:=Unit) Pg 3));have hz:(A w (N #[Y (T (Q b off Z)) n cap] 25)).heap.size=J (U w)+1:=by simp
 rw[hz] at C;clear hz;obtain⟨r,ZP⟩:∃r,r=aI (λp=>aR f p p) n:=⟨_,rfl⟩
 rw[<-ZP];have ZL:=ae ZP;clear ZP;have ZM:=@run_makeMap Pg;go_enter func133,ntmps133;go_wp2;clear ZM;generalize World.alloc (World.alloc w _) _=W at O C ⊢;obtain⟨o,t⟩:∃o,o=J (U w)+1:=⟨_,rfl⟩
 rw[<-t] at C ⊢;have V:=ae t;clear t;go_loopw [12] (λi wr=>∃(k:Nat) (D:DataW Unit),k<=n/\i=.int I k/\Hid (∀j,j<k->aR f j j=ZD)/\Hid (wr.ownsMap Pg 9 (plainElem (H:=Unit) Pg 3) o k D)/\Hid (∀p,Maps.has D (.string (f p).e.data.toList)=!aR f p k)/\Hid (Below (J (U w)) w wr)) (λi _=>n - (intOf i).toNat);case atStart=>exact⟨0,_,by omega,rfl,λj R=>absurd R (KO _),C,λp=>rfl,O⟩
 case round =>
  obtain⟨k,D,hk,rfl,ZO,B,L,l⟩:=hrel;by_cases ZR:k<n
  ·obtain⟨p0,p1,p2,p3,⟨a0,u,p4,q4⟩,⟨a1,q,p5,X⟩⟩:=(HF.aa l ly).2 k ZR;clear q4 X;have ZS:=OU (P:=Pg) (k:=9) KT (ZI k ZR);have h:=ae ZS;have G:=ae (L k);clear ZS;cases hnew:aR f k k with
   |false =>
    have x:Maps.has D (.string (f k).e.data.toList)=ZD:=by rw[G.out,hnew];rfl
    have HHS:=ae x;obtain rfl:r=k:=by rw[ZL.out];exact fB ZR hnew ZO
    clear hnew;have K:=ae (l.alloc l.size (N #[.string (f k).e,.int I (f k).L,.int I (f k).M,.string (f k).H,Y a0 (f k).h u,Y a1 (f k).f q] 46));go_wp2_with (at_lookup;refine wpList_lookup_own_ok_int _ rfl _ _ 245 rfl 9 3 I (SJ KT) UK LK (MY _) o k D rfl (B.alloc _) _ _ rfl h ?_;intro c s y;clear s y);go_ret;exact⟨rfl,K⟩
   |true =>
    have x:Maps.has D (.string (f k).e.data.toList)=ZA:=by rw[G.out,hnew];rfl
    have S:=ae hnew;clear hnew;have ZQ:(Lit.int I (k:Int)).wf=ZD:=by simp only[Lit.wf,IntKind.min,IntKind.max,IntKind.signed,IntKind.bits,nD,p6,if_true];omega
    have ZK:=ae ZQ;clear ZQ
    go_wp2_with (first
     |(at_lookup;refine wpList_lookup_own_ok_int _ rfl _ _ 245 rfl 9 3 I (SJ KT) UK LK (MY _) o k D rfl (B.alloc _) _ _ rfl h ?_;intro c s y;clear s y)
     |(at_mapUpdate;refine wpList_mapUpdate_own _ rfl _ _ _ 245 rfl 9 3 (SJ KT) UK _ o k D rfl (B.alloc _) (by unfold maxLen;omega) _ _ _ rfl rfl h _ [] (plainElem_int LK ZK) ?_;intro w1 m g;have ZJ:=ae m;have K:=ae (bg (l.alloc l.size (N #[.string (f k).e,.int I (f k).L,.int I (f k).M,.string (f k).H,Y a0 (f k).h u,Y a1 (f k).f q] 46)) g (by have:=l.size;simp;omega) (λj e=>by cases e;have:=V.out;omega));clear m g))
    exact⟨⟨k+1,_,by omega,by go_num,λj R=>by
     by_cases e:j=k;{subst e;exact S}
     ·exact ZO j (by omega),ZJ,EK B.isMap L _,K⟩,by simp[intOf];omega⟩
  ·have e:n=k:=by omega
   subst e;obtain rfl:r=-1:=by rw[ZL.out];exact dX ZO
   go_wp2;go_ret;exact⟨rfl,l⟩
open Go.Shelf Ca
attribute [local go_sem] Oper.semAt_some
structure LSt (w0 W:E)(n1 b off n cap L M l:Nat)(s:Nat->Bool):Prop where
 c0:z W (Q L 0 Z)=T (Y (T (Q b off Z)) n cap)
 c1:z W (Q L 1 Z)=T (Y (T (Q M 0 Z)) n n)
 c2:z W (Q L 2 Z)=T (.func (.yield l) #[] #[])
 row:∀q,q<n->z W (Q M q Z)=T (.bool (s q))/\W.frozen? (Q M q Z)=ZA
 low:Below (J (U w0)) w0 W
 hL:n1<=L/\L<J (U W)
 hM:n1<=M/\M<J (U W)
 ne:L≠M
 hb:J (U w0)<=n1
 tyM:OfTy W M 4
 tyL:OfTy W L 276
theorem LSt.blocks{f:E}(h:LSt g W n1 b off n cap L M l s)(hz:J (U W)<=J (U f))(m:f.heap[L]?=W.heap[L]?)(i:f.heap[M]?=W.heap[M]?)(p:Below (J (U g)) g f):LSt g f n1 b off n cap L M l s:=by have c:∀o,z f (Q L o Z)=z W (Q L o Z):=λo=>cq (a:=(Q L o Z)) m;exact⟨(c 0).trans h.c0,(c 1).trans h.c1,(c 2).trans h.c2,λq j=>⟨(cq (a:=(Q M q Z)) i).trans (h.row q j).1,(KM (a:=(Q M q Z)) i).trans (h.row q j).2⟩,p,⟨h.hL.1,lj h.hL.2 hz⟩,⟨h.hM.1,lj h.hM.2 hz⟩,h.ne,h.hb,h.tyM.eq i,h.tyL.eq m⟩
theorem LSt.aa{f:E}(h:LSt g W n1 b off n cap L M l s)(hb:Below (J (U W)) W f):LSt g f n1 b off n cap L M l s :=
 h.blocks hb.size (hb.block L h.hL.2) (hb.block M h.hM.2) (h.low.trans (hb.mono h.low.size))
theorem LSt.upd{j:E}(i:ZL≠4/\ZL≠276)(h:LSt g W n1 b off n cap L M l s)(f:Upd2 ZL (J (U g)) n1 W j):LSt g j n1 b off n cap L M l s :=
 h.blocks f.size (f.block L h.hL.2 (.inr ⟨h.hL.1,h.tyL.ne i.2⟩)) (f.block M h.hM.2 (.inr ⟨h.hM.1,h.tyM.ne i.1⟩)) (h.low.trans (f.aa h.low.size))
theorem LSt.set{p:Nat}(h:LSt g W n1 b off n cap L M l s)(hp:p<n):LSt g (W.setCell (Q M p Z) (.bool ZD)) n1 b off n cap L M l (put s p):=by
 have c:∀o,(W.setCell (Q M p Z) (.bool ZD)).cell? (Q L o Z)=z W (Q L o Z):=λo=>sq _ _ _ _ (by simp;exact λe=>absurd e.symm h.ne);refine⟨(c 0).trans h.c0,(c 1).trans h.c1,(c 2).trans h.c2,λq f=>⟨?_,by simpa using(h.row q f).2⟩,h.low.setCell (by have:=h.hM.1;have:=h.hb;show _<=M;omega) _,by simpa using h.hL,by simpa using h.hM,h.ne,h.hb,h.tyM.set _ _,h.tyL.set _ _⟩;by_cases e:q=p;{subst e;rw[BO _ _ _ (by rw[(h.row q f).1];rfl)];simp[put]};{rw[sq _ _ _ _ (by simp),(h.row q f).1];simp[put,e]}
theorem pz{go:Nat->Nat->(Nat->Bool)->(Nat->Bool) × List (Nat × Nat)}{x:au}{d:Nat}(h:i<=m):(lks go x d s i).2 <+: (lks go x d s m).2:=by
 induction m with
 |zero =>
  obtain rfl:i=0:=by omega
  exact TY
 |succ k b =>
  by_cases e:i=k+1;{subst e;exact TY};{refine(b (by omega)).trans ?_;rw[lks];split;{exact UL _ _};{exact TY}}
theorem EN (hT:ZL≠4/\ZL≠276)(P:E)(n1 b off n cap L M l:Nat)(H:List (Nat × Nat))(f:Nat->au)(ZO ZK:List (Nat × Nat)->E->Prop)(hA:fC f n)(hn:(n:Int)<=400)(hf:RowDeed P b off n f)(hlk:∀p,p<n->(f p).f<=200)
  (hJ:∀s ZR C,ZO s ZR->Itr 4 n1 ZR C->ZO s C) (n9:∀s ZR C,ZK s ZR->Itr 4 n1 ZR C->ZK s C)
  (hY:∀m pre (x:Nat × Nat) W,x.1<n->ZO pre W->pre++[x] <+: H->n1<=J (U W)->YieldAt Fence.wide m Pg l #[.int I (x.1:Int),.int I (x.2:Int)] W λe u =>
   (e=ZF (.bool ZD)/\ZO (pre++[x]) u/\Upd2 ZL (J (U P)) n1 W u)∨(e=ZF (.bool ZA)/\ZK (pre++[x]) u)) :
  ∀(k p d:Nat) (s:Nat->Bool) (pre:List (Nat × Nat)) (W:E) (ZN:Nat),p<k->p<n->d+p<=1000->LSt P W n1 b off n cap L M l s->s p=ZA->ZO pre W->pre++(lst f k p d s).2 <+: H ->
   CallsIn Fence.wide ZN Pg 189 #[.pointer (T (Q L 0 Z)),.int I (p:Int),.int I (d:Int)] W λe u =>(e=ZF (.bool ZD)/\ZO (pre++(lst f k p d s).2) u/\LSt P u n1 b off n cap L M l (lst f k p d s).1)∨(e=ZF (.bool ZA)/\∃q,q <+: (lst f k p d s).2/\ZK (pre++q) u):=by
 intro k;induction k with
 |zero=>intro p d s pre W ZN h;omega
 |succ k ih =>
  intro p d s pre W ZN hpk G hdp hS hs mv hN;have HS:=ae hS;have DQ:=ae mv;have HN:=ae hN;have sm:=ae ih;have HY:=ae hY;have HJ:=ae hJ;have HJx:=ae n9;have HA:=ae hA;have HF:=ae hf;obtain⟨_,_,_,_,_,⟨a1,cap1,n6,q5⟩⟩:=hf.2 p G;have p5:=(hS.low.cell (p:=(Q b (off+p*6+5) Z)) hf.1).trans n6;obtain⟨m,V⟩:∃m,m=(f p).f:=⟨_,rfl⟩
  have hm2:m<=200:=by rw[V];exact hlk p G
  rw[<-V] at p5 q5;have HL:=ae q5;have HM:=ae V;have e0:=hS.c0;obtain⟨K,hK⟩:∃K,K=lks (lst f k) (f p) d s:=⟨_,rfl⟩
  have ZP:Hid (lst f (k+1) p d s=(put (K m).1 p,(K m).2++[(p,d)])):=by rw[hK,V];rfl
  have ld:Hid (K 0=(s,[])):=by rw[hK];rfl
  have At:Hid (∀j,K (j+1)=if ((f p).m j).ask=ZD/\(K j).1 ((f p).m j).G.toNat=ZA then ((lst f k ((f p).m j).G.toNat (d+1) (K j).1).1,(K j).2++(lst f k ((f p).m j).G.toNat (d+1) (K j).1).2) else K j):=λj=>by rw[hK];rfl
  have DE:Hid (∀i,i<=m->(K i).2 <+: (K m).2):=λi hi=>by rw[hK];exact pz hi
  clear hS mv hN ih hY hJ n9 hA hf q5 V hlk n6 hK;refine callsIn_of_wp func189 rfl trivial ?_ rfl;simp only[ntmps189,NM,xT,KF,Nat.reduceAdd,Nat.reduceSub,OJ,ON,QB,OV,LA,MC];gi_wp2;clear e0 p5;gi_loopw [18] (λi wr=>∃j:Nat,j<=m/\i=.int I j/\Hid (LSt P wr n1 b off n cap L M l (K j).1)/\Hid (ZO (pre++(K j).2) wr)) (λi _=>m - (intOf i).toNat);case atStart=>exact⟨0,by omega,rfl,by rw[ld.out];exact HS,by rw[ld.out,TZ];exact DQ⟩
  case round =>
   obtain⟨j,hj,rfl,g,ph⟩:=hrel;by_cases Fd:j<m
   ·obtain⟨lb,lo,rfl,ex⟩:=(HL.aa g.low ly).resolve_left (by omega);obtain⟨d0,d1,d2,d3⟩:=ex.2 j Fd;clear ex;have R:=At.out j;have bt:=HA.out p G j (by have:=HM.out;omega);generalize (f p).m j=x at d0 d1 d2 d3 R bt;have S:=ae R;clear R;have ZQ:=ae (g.aa (br.alloc ly (N #[.string x.e,.bool x.ask,.bool x.has,.int I x.G] 129)));have J1:=ae (HJ _ _ _ ph (Itr.q ((BS wr).alloc ly (N #[.string x.e,.bool x.ask,.bool x.has,.int I x.G] 129)) ly (by have:=g.hL;omega)));have e1:(A wr (N #[.string x.e,.bool x.ask,.bool x.has,.int I x.G] 129)).cell? (Q (J (U wr)) 1 Z)=T (.bool x.ask):=by simp
    have e3:(A wr (N #[.string x.e,.bool x.ask,.bool x.has,.int I x.G] 129)).cell? (Q (J (U wr)) 3 Z)=T (.int I x.G):=by simp
    have qr:=ae bt;clear bt;gi_upto_region 4 with fail;clear d0 d1 d2 d3;generalize World.alloc wr _=D at ZQ J1 e1 e3 ⊢;generalize (J (U wr))=X at e1 e3 ⊢;cases hask:x.ask with
    |false =>
     have o:K (j+1)=K j:=by rw[S.out,eT (by rw[hask];simp)]
     have t:=ae o;clear o;rw[hask] at e1;have ur:∀f,Fence.wide.fn f=True:=λ_=>rfl;gi_quiet (fail);have ZM:=ae (ZQ.aa (AI (BS D) nq));have ZI:=ae (HJ _ _ _ J1 (Itr.q (AI (BS D) nq) ly (by have:=ZQ.hL;omega)));gi_wp2;exact⟨⟨j+1,by omega,by go_num,by rw[t.out];exact ZM,by rw[t.out];exact ZI⟩,by simp[intOf];omega⟩
    |true =>
     obtain⟨q,ZJ⟩:∃q:Nat,x.G=(q:Int):=⟨x.G.toNat,by have:=(qr hask).2;omega⟩
     have hqp:q<p:=by have:=(qr hask).1;rw[ZJ] at this;simpa using this
     rw[ZJ] at e3;rw[hask] at e1;have f1:=ZQ.c1;obtain⟨f2,_⟩:=ZQ.row q (by omega);have hq0:(0:Int)<=q:=by omega
     have hqn:(q:Int)<n:=by omega
     have ur:∀f,Fence.wide.fn f=True:=λ_=>rfl;cases hl:(K j).1 q with
     |true =>
      have o:K (j+1)=K j:=by rw[S.out,eT (by rw[ZJ];simp[hl])]
      have t:=ae o;clear o;rw[hl] at f2;gi_quiet (fail);have ZM:=ae (ZQ.aa (AI (BS D) nq));have ZI:=ae (HJ _ _ _ J1 (Itr.q (AI (BS D) nq) ly (by have:=ZQ.hL;omega)));gi_wp2;exact⟨⟨j+1,by omega,by go_num,by rw[t.out];exact ZM,by rw[t.out];exact ZI⟩,by simp[intOf];omega⟩
     |false =>
      have o:K (j+1)=((lst f k q (d+1) (K j).1).1,(K j).2++(lst f k q (d+1) (K j).1).2):=by rw[S.out,j6 ⟨hask,by rw[ZJ];simpa using hl⟩,ZJ];simp
      have t:=ae o;have aq:=DE.out (j+1) (by omega);rw[o] at aq;have n8:=ae aq;have fd:((d+1:Nat):Int)=(d:Int)+1:=by omega
      have HC:Hid (∀W2 ZN,LSt P W2 n1 b off n cap L M l (K j).1->ZO (pre++(K j).2) W2->CallsIn Fence.wide ZN Pg 189 #[.pointer (T (Q L 0 Z)),.int I (q:Int),.int I ((d:Int)+1)] W2 λe u =>
        ∃r:Bool,e=ZF (.bool r)/\Hid ((r=ZD/\ZO (pre++(K (j+1)).2) u/\LSt P u n1 b off n cap L M l (K (j+1)).1)∨(r=ZA/\∃q,q <+: (K m).2++[(p,d)]/\ZK (pre++q) u))):=by
       intro W2 ZN h1 h2;have O:(pre++(K j).2)++(lst f k q (d+1) (K j).1).2 <+: H:=by have B:=HN.out;rw[ZP.out] at B;obtain⟨ZS,hz⟩:=B;obtain⟨y,hy⟩:=n8.out;exact⟨y++[(p,d)]++ZS,by rw[<-hz];simp only[];rw[<-hy];simp⟩
       have h:=sm.out q (d+1) (K j).1 (pre++(K j).2) W2 ZN (by omega) (by omega) (by omega) h1 hl h2 O;rw[fd] at h;refine h.mono λe u h=>?_;rcases h with ⟨he,hj,hs⟩|⟨he,q',Bk,hx⟩
       ·exact⟨ZD,he,.inl ⟨rfl,by rw[t.out,<-KU];exact hj,by rw[t.out];exact hs⟩⟩
       ·refine⟨ZA,he,.inr ⟨rfl,(K j).2++q',?_,by rw[<-KU];exact hx⟩⟩
        obtain⟨ZS,hz⟩:=Bk;obtain⟨y,hy⟩:=n8.out;exact⟨ZS++y++[(p,d)],by rw[<-hy,<-hz];simp⟩
      have DS:=ae (ZQ.aa ((BS D).drew));have th:=ae (HJ _ _ _ J1 (Itr.q (BS D).drew ly (by have:=ZQ.hL;omega)));have hwr:IntKind.i64.wrap ((d:Int)+1)=(d:Int)+1:=by rw[p9];omega
      clear o aq;rw[hl] at f2;gi_region_with ((try refine⟨λh=>(by cases h),?_⟩);gi_at_call 189;refine(HC _ _ ?_ ?_).mono ?_;(first|exact DS|exact ZQ);(first|exact th|exact J1);rintro e W3 ⟨r,rfl,H3⟩);all_goals
       cases r with
       |true =>have B:=H3.resolve_right (λh=>by cases h.1);have S3:=ae B.2.2;have J3:=ae B.2.1;clear B H3;gi_wp2;exact⟨⟨j+1,by omega,by go_num,S3,J3⟩,by simp[intOf];omega⟩
       |false =>have B:=H3.resolve_left (λh=>by cases h.1);have X3:=ae B.2;clear B H3;gi_wp2;go_ret;rw[ZP.out];exact .inr ⟨rfl,X3⟩
   ·have e:m=j:=by omega
    subst e;have ZM:=ae (g.set G);have ZI:=ae (HJ _ _ _ ph (Itr.setCell wr (p:=(Q M p Z)) g.hM.1 g.tyM (.bool ZD)));have O:(pre++(K m).2)++[(p,d)] <+: H:=by have B:=HN.out;rw[ZP.out] at B;simpa using B
    have Fk:=HY.out (ZN - 1) (pre++(K m).2) (p,d) _ G ZI O (by have:=g.hL;simp;omega);obtain⟨fn,tmps,assign,body,hy,hR⟩:=Fk;dsimp only at hy;have HR:=ae hR;clear hR;have g1:=g.c1;obtain⟨g3,g4⟩:=g.row p G;have g2:=ZM.c2;have hp0:(0:Int)<=p:=by omega
    have hpn':(p:Int)<n:=by omega
    gi_wp2;refine⟨λh=>(by cases h),HR.mono ?_⟩;rintro e W3 (⟨rfl,n7,la⟩|⟨rfl,ro⟩);{have J3:=ae n7;have S3:=ae (ZM.upd hT la);clear n7 la;gi_wp2;go_ret;rw[ZP.out];exact .inl ⟨rfl,by rw[<-KU];exact J3,S3⟩};{have X3:=ae ro;clear ro;gi_wp2;go_ret;rw[ZP.out];exact .inr ⟨rfl,_,TY,by rw[<-KU];exact X3⟩}
attribute [local go_sem] Oper.semAt_some
theorem Bq{F:Fence}(i:F.depth=Z){f:FuncId}{tmps:Array ZB}{assign body:Code}{w:E}
  (h:RoundIn F m P l f tmps assign body w R):RoundIn F b P l f tmps assign body w R:=⟨h.1,λc g _=>h.2 c g (λd h=>by rw[i] at h;cases h)⟩
theorem Br{F:Fence}(g:F.depth=Z)(b:Nat){args:Array ZB}(h:YieldAt F m P l args W R):YieldAt F b P l args W R:=by obtain⟨fn,tmps,assign,body,f,hR⟩:=h;exact⟨fn,tmps,assign,body,f,Bq g hR⟩
theorem Bs:(Pg.info? 4).map (λi=>(i.zero,i.size,i.bytes))=T (T (.bool ZA),1,1):=by kernel_rfl
def bD (n:Nat):Array ZB:=madeCells (Value.bool ZA).cells n
theorem zy (n:Nat)(hn:n<=1048576)(w:E):(Instr.makeSlice 212 (.int I (n:Int)) (.int I (n:Int))).run Pg w=.ok (Y (T (Q (J (U w)) 0 Z)) n n) (w.alloc (N (bD n) 4)):=by obtain⟨i,hi,hz⟩:=NP.1 Bs;simp only[KH] at hz;obtain⟨h1,h2,b⟩:=hz;have h:=run_make (P:=Pg) w 212 4 i _ underlying212 hi h1 I I n n (by omega) (UT _) (by rw[b];omega) (by omega);rw[h2] at h;simpa[bD] using h
theorem tG (n q:Nat)(h:q<n):(bD n)[q]?=T (.bool ZA):=by unfold bD madeCells;simp[Value.cells,h,Nat.mod_one]
theorem pA (W:E)(n q:Nat)(h:q<n):(W.alloc (N (bD n) 4)).cell? (Q (J (U W)) q Z)=T (.bool ZA)/\(W.alloc (N (bD n) 4)).frozen? (Q (J (U W)) q Z)=ZA:=by
 have e:=gM W (N (bD n) 4);refine⟨?_,?_⟩;{rw[cell_of_row _ _ _ _ _ _ e];exact tG n q h};{unfold World.frozen?;rw[e];simp}
theorem Bt (f:Below (J (U g)) g W):LSt g ((W.alloc (N (bD n) 4)).alloc (N #[Y (T (Q b off Z)) n cap,Y (T (Q (J (U W)) 0 Z)) n n,.func (.yield l) #[] #[]] 276)).drew (J (U W)) b off n cap (J (U W)+1) (J (U W)) l (λ_=>ZA):=by
 have hz:(W.alloc (N (bD n) 4)).heap.size=J (U W)+1:=by simp
 have D:Below (J (U W)+1) (W.alloc (N (bD n) 4)) ((W.alloc (N (bD n) 4)).alloc (N #[Y (T (Q b off Z)) n cap,Y (T (Q (J (U W)) 0 Z)) n n,.func (.yield l) #[] #[]] 276)).drew:=(br.alloc (by omega) _).drew;refine⟨?_,?_,?_,λq i=>?_,((f.alloc f.size _).alloc (by simp;have:=f.size;omega) _).drew,by simp,by simp;omega,by omega,f.size,?_,?_⟩;{simp};{simp};{simp};{exact⟨(D.cell (p:=(Q (J (U W)) q Z)) (j4 _)).trans (pA W n q i).1,(D.frozen (p:=(Q (J (U W)) q Z)) (j4 _)).trans (pA W n q i).2⟩};{exact(OfTy.new W _ _).eq (D.block _ (j4 _))};{have h:=OfTy.new (W.alloc (N (bD n) 4)) #[Y (T (Q b off Z)) n cap,Y (T (Q (J (U W)) 0 Z)) n n,.func (.yield l) #[] #[]] 276;rw[hz] at h;exact h.eq rfl}
theorem Bu (f:Below (J (U g)) g W):LSt g ((A W (N #[Y (T (Q b off Z)) n cap,Y (T (Q (J (U W)+1) 0 Z)) n n,.func (.yield l) #[] #[]] 276)).alloc (N (bD n) 4)).drew (J (U W)) b off n cap (J (U W)) (J (U W)+1) l (λ_=>ZA):=by
 have hz:(A W (N #[Y (T (Q b off Z)) n cap,Y (T (Q (J (U W)+1) 0 Z)) n n,.func (.yield l) #[] #[]] 276)).heap.size=J (U W)+1:=by simp
 have D:Below (J (U W)+1) (A W (N #[Y (T (Q b off Z)) n cap,Y (T (Q (J (U W)+1) 0 Z)) n n,.func (.yield l) #[] #[]] 276)) ((A W (N #[Y (T (Q b off Z)) n cap,Y (T (Q (J (U W)+1) 0 Z)) n n,.func (.yield l) #[] #[]] 276)).alloc (N (bD n) 4)).drew:=(br.alloc (by omega) _).drew;refine⟨(D.cell (p:=(Q (J (U W)) 0 Z)) (j4 _)).trans (by simp),(D.cell (p:=(Q (J (U W)) 1 Z)) (j4 _)).trans (by simp),(D.cell (p:=(Q (J (U W)) 2 Z)) (j4 _)).trans (by simp),λq i=>?_,((f.alloc f.size _).alloc (by simp;have:=f.size;omega) _).drew,by simp;omega,by simp,by omega,f.size,?_,?_⟩;{have h:=pA (A W (N #[Y (T (Q b off Z)) n cap,Y (T (Q (J (U W)+1) 0 Z)) n n,.func (.yield l) #[] #[]] 276)) n q i;rw[hz] at h;exact h};{have h:=OfTy.new (A W (N #[Y (T (Q b off Z)) n cap,Y (T (Q (J (U W)+1) 0 Z)) n n,.func (.yield l) #[] #[]] 276)) (bD n) 4;rw[hz] at h;exact h.eq rfl};{exact(OfTy.new W _ _).eq (D.block _ (j4 _))}
theorem pB (v:ZB)(w:E)(b:Nat):CallsIn Fence.wide b Pg 165 #[.agg #[v]] w λe f=>e=ZF (.func (.func 188) #[] #[.pointer (T (Q (J (U w)) 0 Z))])/\f=A w (N #[v] 25):=by refine callsIn_of_wp func165 rfl trivial ?_ rfl;simp only[ntmps165,NM,xT,KF,Nat.reduceAdd,Nat.reduceSub,OJ,ON,QB,OV,LA,MC];gi_wp2;go_ret;exact⟨rfl,rfl⟩
theorem tH (hT:ZL≠4/\ZL≠276)(o:E)(b off n cap t B:Nat)(f:Nat->au)(w:E)(hA:fC f n)(hn1:1<=n)(hn:(n:Int)<=400)(hf:RowDeed o b off n f)(hlk:∀p,p<n->(f p).f<=200)(i:Below (J (U o)) o w)(ZP:z w (Q t 0 Z)=T (Y (T (Q b off Z)) n cap))(ZS:t<J (U w)):SeqT2 ZL 4 Fence.wide B Pg 188 #[.pointer (T (Q t 0 Z))] (λx:Nat × Nat=>#[Value.int I (x.1:Int),Value.int I (x.2:Int)]) (λpre x=>x.1<n/\pre++[x] <+: aD f n) (J (U o)) (λg=>g=aD f n) (λpre=>pre <+: aD f n) w:=by
 intro l ZO P W C ZK G ZI ZR;have S:=EN hT o (J (U W)) b off n cap;have ZQ:=ae S;clear S;have hB:=(C.cell (p:=(Q t 0 Z)) ZS).trans ZP;have X:=λw=>zy n (by omega) w;have hwb:IntKind.i64.wrap ((n:Int) - 1)=(n:Int) - 1:=by rw[p9];omega
 have R:=ae ZK;have H:=ae G;have HY:=ae ZI;have H0:=ae ZR;have HA:=ae hA;have HF:=ae hf;have D:=ae hlk;have j:=ae (i.trans (C.mono i.size));have bt:t<J (U W):=lj ZS C.size;clear ZK G ZI ZR hA hf hlk i C ZP ZS;refine callsIn_of_wp func188 rfl trivial ?_ rfl;simp only[ntmps188,NM,xT,KF,Nat.reduceAdd,Nat.reduceSub,OJ,ON,QB,OV,LA,MC];have K:∀L M y,LSt o y (J (U W)) b off n cap L M l (λ_=>ZA)->Below (J (U W)) W y->CallsIn Fence.wide (B - 1) Pg 189 #[.pointer (T (Q L 0 Z)),.int I ((n:Int) - 1),.int I 0] y λe s =>
   ∃r:Bool,e=ZF (.bool r)/\Hid ((∃g,g=aD f n/\ZO g s)∨(∃pre,pre <+: aD f n/\P pre s)):=by
  intro L M y ZM aq;have h:=ZQ.out L M l (aD f n) f ZO P HA hn HF D R H (λm pre x W1 ZR h1 h2 h3=>Br rfl m (HY pre x W1 ⟨ZR,h2⟩ h1 h3)) n (n - 1) 0 (λ_=>ZA) [] y (B - 1) (by omega) (by omega) (by omega) ZM rfl (R _ _ _ H0 (Itr.q aq ly  ly)) (by simp[aD]);rw[show((n - 1:Nat):Int)=(n:Int) - 1 by omega] at h;refine h.mono λe s h=>?_;rcases h with ⟨ZN,hj,_⟩|⟨ZN,q,hq,hx⟩
  ·exact⟨ZD,ZN,.inl ⟨_,rfl,by simpa[aD] using hj⟩⟩
  ·exact⟨ZA,ZN,.inr ⟨q,hq,by simpa using hx⟩⟩
 have u:=ae K;have D1:=ae (((BS W).alloc ly (N (bD n) 4)).alloc (by simp) (N #[Y (T (Q b off Z)) n cap,Y (T (Q (J (U W)) 0 Z)) n n,.func (.yield l) #[] #[]] 276)).drew;have V:=ae (((BS W).alloc ly (N #[Y (T (Q b off Z)) n cap,Y (T (Q (J (U W)+1) 0 Z)) n n,.func (.yield l) #[] #[]] 276)).alloc (by simp) (N (bD n) 4)).drew;have hfw:∀f,Fence.wide.fn f=True:=λ_=>rfl;clear K ZQ R H HY H0 HA HF D;gi_upto_region 0 with fail;gi_cut [3] from 4 (λs3 wx=>∃L,s3=.pointer (T (Q L 0 Z))/\Hid (∃M,LSt o wx (J (U W)) b off n cap L M l (λ_=>ZA))/\Hid (Below (J (U W)) W wx));case first =>
  have hsf:=λ(w:E) (a:Addr) (m:Mode)=>run_store Pg w a (.func (.yield l) #[] #[]) m rfl;gi_region_with fail;all_goals
   gi_wp2_with fail;gi_meet;first
    |exact⟨J (U W)+1,rfl,⟨J (U W),Bt j⟩,D1⟩
    |exact⟨J (U W),rfl,⟨J (U W)+1,Bu j⟩,V⟩
 case rest =>
 obtain⟨L,rfl,ZJ,O⟩:=hcut;have hB1:=(O.cell (p:=(Q t 0 Z)) bt).trans hB;have HC:Hid (CallsIn Fence.wide (B - 1) Pg 189 #[.pointer (T (Q L 0 Z)),.int I ((n:Int) - 1),.int I 0] wc λe s=>∃r:Bool,e=ZF (.bool r)/\Hid ((∃g,g=aD f n/\ZO g s)∨(∃pre,pre <+: aD f n/\P pre s))):=by obtain⟨M,ZM⟩:=ZJ.out;exact u L M wc ZM O
 clear u ZJ X O j D1 V hB;gi_wp2_with ((try refine⟨λh=>(by cases h),?_⟩);gi_at_call 189;refine HC.mono ?_;rintro e W3 ⟨r,rfl,H3⟩);go_end0;exact⟨⟨_,rfl⟩,H3⟩
theorem nJ (g:E)(b off n cap i l:Nat)(f:Nat->au)(w:E)(s:fC f n)(hn1:1<=n)(hn:(n:Int)<=400)(q:RowDeed g b off n f)(hlk:∀p,p<n->(f p).f<=200)(j:Below (J (U g)) g w)(o:z w (Q i 0 Z)=T (Y (T (Q b off Z)) n cap))(m:i<J (U w)):Bd Fence.wide l Pg 188 #[.pointer (T (Q i 0 Z))] (λx:Nat × Nat=>#[Value.int I (x.1:Int),Value.int I (x.2:Int)]) (λx=>x.1<n) (J (U g)) (λr=>r=aD f n) (λpre=>pre <+: aD f n) (aD f n).length w :=
 (tH (ZL:=46) ⟨by decide,by decide⟩ g b off n cap i l f w s hn1 hn q hlk j o m).plain λpre x h=>⟨h.1,by have:=h.2.length_le;simp at this;omega⟩
attribute [local go_sem] Oper.semAt_some
theorem pC (h:bB i pre=-1):bB i (pre++[x])=if x.1=i+pre.length then -1 else ((i+pre.length:Nat):Int):=by
 induction pre generalizing i with
 |nil=>simp[bB]
 |cons y b f =>
  simp only[bB,MC] at h ⊢;split at h
  ·rename_i e;rw[j6 e,f h];simp only[xT];have:i+1+b.length=i+(b.length+1):=by omega
   rw[this]
  {omega}
theorem tI{b:List (Nat × Nat)}(g:pre <+: b)(h:bB i pre≠-1):bB i b=bB i pre:=by
 induction pre generalizing i b with
 |nil=>exact absurd rfl h
 |cons y ys f =>
  obtain⟨t,rfl⟩:=g;simp only[bB,MC] at h ⊢;split;{rename_i e;rw[j6 e] at h;exact f (UL _ _) h};{rfl}
theorem vv (h:aY f pre=-1):aY f (pre++[x])=if (f x.1).L=3/\60<=x.2 then (x.1:Int) else -1:=by
 induction pre with
 |nil=>simp[aY]
 |cons y ys b =>
  simp only[aY,MC] at h ⊢;split at h;{omega};{rename_i e;rw[eT e,b h]}
theorem sF{b:List (Nat × Nat)}(i:pre <+: b)(h:aY f pre≠-1):aY f b=aY f pre:=by
 induction pre generalizing b with
 |nil=>exact absurd rfl h
 |cons y ys g =>
  obtain⟨t,rfl⟩:=i;simp only[aY,MC] at h ⊢;split;{rfl};{rename_i e;rw[eT e] at h;exact g (UL _ _) h}
structure GI (W:E)(h:Nat)(v:ZB):Prop where
 size:J (U W)=h+4
 r:z W (Q (h+1) 0 Z)=T (.int I 0)/\W.frozen? (Q (h+1) 0 Z)=ZA
 t:z W (Q (h+1+1) 0 Z)=T (.int I 0)/\W.frozen? (Q (h+1+1) 0 Z)=ZA
 a:z W (Q (h+1+1+1) 0 Z)=T v
 a0:z W (Q h 0 Z)=T v
theorem xP (w:E)(v:ZB)(t u:ZH):GI ((((A w (N #[v] t)).alloc (N #[.int I 0] u)).alloc (N #[.int I 0] u)).alloc (N #[v] t)) (J (U w)) v:=by
 have f:(A w (N #[v] t)).heap.size=J (U w)+1:=by simp
 have b:((A w (N #[v] t)).alloc (N #[.int I 0] u)).heap.size=J (U w)+1+1:=by simp
 have g:(((A w (N #[v] t)).alloc (N #[.int I 0] u)).alloc (N #[.int I 0] u)).heap.size=J (U w)+1+1+1:=by simp
 have j:Below (J (U w)+1) (A w (N #[v] t)) ((((A w (N #[v] t)).alloc (N #[.int I 0] u)).alloc (N #[.int I 0] u)).alloc (N #[v] t)):=((br.alloc (by omega) _).alloc (by omega) _).alloc (by omega) _;have i:Below (J (U w)+1+1) ((A w (N #[v] t)).alloc (N #[.int I 0] u)) ((((A w (N #[v] t)).alloc (N #[.int I 0] u)).alloc (N #[.int I 0] u)).alloc (N #[v] t)):=(br.alloc (by omega) _).alloc (by omega) _;have h:Below (J (U w)+1+1+1) (((A w (N #[v] t)).alloc (N #[.int I 0] u)).alloc (N #[.int I 0] u)) ((((A w (N #[v] t)).alloc (N #[.int I 0] u)).alloc (N #[.int I 0] u)).alloc (N #[v] t)):=br.alloc (by omega) _;refine⟨by simp,⟨?_,?_⟩,⟨?_,?_⟩,?_,(j.cell (p:=(Q (J (U w)) 0 Z)) (j4 _)).trans (by simp)⟩;{refine(i.cell (p:=(Q (J (U w)+1) 0 Z)) (j4 _)).trans ?_;rw[<-f];clear j i h f b g;generalize A w (N #[v] t)=W;simp};{refine(i.frozen (p:=(Q (J (U w)+1) 0 Z)) (j4 _)).trans ?_;rw[<-f];clear j i h f b g;generalize A w (N #[v] t)=W;simp};{refine(h.cell (p:=(Q (J (U w)+1+1) 0 Z)) (j4 _)).trans ?_;rw[<-b];clear j i h f b g;generalize (A w (N #[v] t)).alloc (N #[.int I 0] u)=W;simp};{refine(h.frozen (p:=(Q (J (U w)+1+1) 0 Z)) (j4 _)).trans ?_;rw[<-b];clear j i h f b g;generalize (A w (N #[v] t)).alloc (N #[.int I 0] u)=W;simp};{rw[<-g];clear j i h f b g;generalize ((A w (N #[v] t)).alloc (N #[.int I 0] u)).alloc (N #[.int I 0] u)=W;simp}
theorem sG (b off n cap:Nat)(f:Nat->au)(w:E)(ZI:fC f n)(hn1:1<=n)(hn:(n:Int)<=400)(H:RowDeed w b off n f)(hlk:∀p,p<n->(f p).f<=200)(hlen:(aD f n).length<=400):Calls Pg 134 #[.agg #[Y (T (Q b off Z)) n cap]] w λe ZJ=>e=ZF (.int I (bB 0 (aD f n)))/\Below (J (U w)) w ZJ:=by
 refine(callsIn_wide (n:=3)).1 ?_;have HF:=ae H;have HA:=ae ZI;have V:=ae hlk;clear H ZI hlk;have O:=((((BS w).alloc ly (N #[Y (T (Q b off Z)) n cap] 25)).alloc (by simp) (N #[.int I 0] 3)).alloc (by simp;omega) (N #[.int I 0] 3)).alloc (by simp;omega) (N #[Y (T (Q b off Z)) n cap] 25);have ZM:=ae O;clear O;have ZS:=ae (xP w (Y (T (Q b off Z)) n cap) 25 3);refine callsIn_of_wp_marks func134 rfl trivial ?_ rfl;simp only[ntmps134,NM,xT,KF,Nat.reduceAdd,Nat.reduceSub,OJ,ON,QB,OV,LA,MC];gi_wp2_with (refine⟨trivial,?_⟩;gi_at_call 165;refine(pB _ _ _).mono ?_;rintro e ZJ ⟨rfl,rfl⟩);generalize World.alloc (World.alloc (World.alloc (World.alloc w _) _) _) _=W at ZM ZS ⊢;have hsz:=ZS.size;obtain⟨L,M⟩:=ZS.r;obtain⟨ZO,ZP⟩:=ZS.t;refine iZ (F:=Fence.wide) rfl (by omega) (gf:=188) (lb:=#[.pointer (T (Q (J (U w)+1+1+1) 0 Z))]) rfl trivial (enters_of func188 (by kernel_rfl) rfl) (base:=J (U w)) (by omega)
  (nJ w b off n cap (J (U w)+1+1+1) (3 - 1) f W HA hn1 hn HF V ZM ZS.a (by omega)) br (λ_=>rfl)
  (λpre j=>z j (Q (J (U w)+1+1) 0 Z)=T (.int I (pre.length:Int))/\j.frozen? (Q (J (U w)+1+1) 0 Z)=ZA/\z j (Q (J (U w)+1) 0 Z)=T (.int I 0)/\j.frozen? (Q (J (U w)+1) 0 Z)=ZA/\Hid (bB 0 pre=-1)/\Hid (Below (J (U w)) w j))
  (λc pre j=>c=.ret/\z j (Q (J (U w)+1) 0 Z)=T (.int I (bB 0 pre))/\Hid (bB 0 pre≠-1)/\Hid (Below (J (U w)) w j))
  (λs ZR B h i=>⟨(i.cell (p:=(Q (J (U w)+1+1) 0 Z)) (by show (J (U w))+1+1<J (U W);omega)).trans h.1,(i.frozen (p:=(Q (J (U w)+1+1) 0 Z)) (by show (J (U w))+1+1<J (U W);omega)).trans h.2.1,(i.cell (p:=(Q (J (U w)+1) 0 Z)) (by show (J (U w))+1<J (U W);omega)).trans h.2.2.1,(i.frozen (p:=(Q (J (U w)+1) 0 Z)) (by show (J (U w))+1<J (U W);omega)).trans h.2.2.2.1,h.2.2.2.2.1,h.2.2.2.2.2.trans (i.mono (by omega))⟩)
  (λc s ZR B h i=>⟨h.1,(i.cell (p:=(Q (J (U w)+1) 0 Z)) (by show (J (U w))+1<J (U W);omega)).trans h.2.1,h.2.2.1,h.2.2.2.trans (i.mono (by omega))⟩)
  ⟨ZO,ZP,L,M,rfl,ZM⟩
  (λx=>{ tmps:=#[.agg #[Y (T (Q b off Z)) n cap],.pointer (T (Q (J (U w)) 0 Z)),.pointer (T (Q (J (U w)+1) 0 Z)),.pointer (T (Q (J (U w)+1+1) 0 Z)),.int I (x.1:Int),.agg #[Y (T (Q b off Z)) n cap],.func (.func 188) #[] #[.pointer (T (Q (J (U w)+1+1+1) 0 Z))],.int I (x.1:Int),.int I (x.2:Int),undef,undef,undef,undef,undef,undef],defers:=[] }) ?assign ?body ?done ?stop
 case assign =>intro l x W K u;gi_wp2;exact u
 case body =>
  rintro l pre x g _ ⟨hc,H,o,ZN,q,y⟩ hlt hz;clear L M ZO ZP;have hpl:(pre.length:Int)<=1048576:=by omega
  by_cases hx:(x.1:Int)=(pre.length:Int)
  ·have D:bB 0 (pre++[x])=-1:=by rw[pC q.out,j6 (by omega)]
   have m:=ae D;clear D;have R:=ae (Upd.setCell (P:=λk=>J (U w)<=k/\k<J (U W)) g (p:=(Q (J (U w)+1+1) 0 Z)) ⟨by show _<=_+1+1;omega,by show _+1+1<_;omega⟩ (.int I ((pre.length:Int)+1)));have C:=ae (y.setCell (p:=(Q (J (U w)+1+1) 0 Z)) (by show _<=_+1+1;omega) (.int I ((pre.length:Int)+1)));have c1:(g.setCell (Q (J (U w)+1+1) 0 Z) (.int I ((pre.length:Int)+1))).cell? (Q (J (U w)+1+1) 0 Z)=T (.int I ((pre++[x]).length:Int)):=by rw[BO _ _ _ (by rw[hc];rfl)];simp
   have c2:(g.setCell (Q (J (U w)+1+1) 0 Z) (.int I ((pre.length:Int)+1))).cell? (Q (J (U w)+1) 0 Z)=T (.int I 0):=by rw[sq _ _ _ _ (by simp)];exact o
   have G:=ae c1;have C2:=ae c2;clear c1 c2;gi_wp2;exact⟨R,G,by simpa using H,C2,by simpa using ZN,m,C⟩
  ·have D:bB 0 (pre++[x])=(pre.length:Int):=by rw[pC q.out,eT (by omega)];simp
   have m:=ae D;clear D;have R:=ae (Upd.setCell (P:=λk=>J (U w)<=k/\k<J (U W)) g (p:=(Q (J (U w)+1) 0 Z)) ⟨by show _<=_+1;omega,by show _+1<_;omega⟩ (.int I (pre.length:Int)));have C:=ae (y.setCell (p:=(Q (J (U w)+1) 0 Z)) (by show _<=_+1;omega) (.int I (pre.length:Int)));have G:=ae (BO g (Q (J (U w)+1) 0 Z) (.int I (pre.length:Int)) (by rw[o];rfl));gi_wp2;exact⟨R,rfl,by rw[m.out];exact G,by show _≠_;rw[m.out];omega,C⟩
 case done =>rintro X ys g S rfl ⟨_,_,o,ZN,q,y⟩ u;have ZK:=ae ((KeepsOthers.setCell g (Q (J (U w)+1) 0 Z) (.int I (-1))).same X _ u rfl);have C:=ae (y.setCell (p:=(Q (J (U w)+1) 0 Z)) (by show _<=_+1;omega) (.int I (-1)));have G:=ae (BO g (Q (J (U w)+1) 0 Z) (.int I (-1)) (by rw[o];rfl));gi_wp2;refine⟨by simp,.inl ⟨_,_,rfl,run_takeDeferred ZK,?_⟩⟩;have ZQ:=dE (n:=J (U W)) (g.setCell (Q (J (U w)+1) 0 Z) (.int I (-1))) S (DN.1 ZK).1 (.deferred Z);have c:=(ZQ.cell (p:=(Q (J (U w)+1) 0 Z)) (by show (J (U w))+1<J (U W);omega)).trans G;exact⟨.int I (-1),by simp[results,results134,go_sem,c],by rw[q.out],C.trans (ZQ.mono (by omega))⟩
 case stop =>rintro X c pre g S ZL ⟨rfl,o,q,y⟩ u;gi_wp2;refine⟨by simp,.inl ⟨_,_,rfl,run_takeDeferred u,?_⟩⟩;have ZQ:=dE (n:=J (U W)) g S (DN.1 u).1 (.deferred Z);have c:=(ZQ.cell (p:=(Q (J (U w)+1) 0 Z)) (by show (J (U w))+1<J (U W);omega)).trans o;exact⟨.int I (bB 0 pre),by simp[results,results134,go_sem,c],by rw[tI ZL q.out],y.trans (ZQ.mono (by omega))⟩
structure GJ (W:E)(h:Nat)(v:ZB):Prop where
 size:J (U W)=h+3
 r:z W (Q (h+1) 0 Z)=T (.int I 0)/\W.frozen? (Q (h+1) 0 Z)=ZA
 a:z W (Q (h+1+1) 0 Z)=T v
 a0:z W (Q h 0 Z)=T v
theorem xQ (w:E)(v:ZB)(t u:ZH):GJ (((A w (N #[v] t)).alloc (N #[.int I 0] u)).alloc (N #[v] t)) (J (U w)) v:=by
 have b:(A w (N #[v] t)).heap.size=J (U w)+1:=by simp
 have f:((A w (N #[v] t)).alloc (N #[.int I 0] u)).heap.size=J (U w)+1+1:=by simp
 have h:Below (J (U w)+1) (A w (N #[v] t)) (((A w (N #[v] t)).alloc (N #[.int I 0] u)).alloc (N #[v] t)):=(br.alloc (by omega) _).alloc (by omega) _;have g:Below (J (U w)+1+1) ((A w (N #[v] t)).alloc (N #[.int I 0] u)) (((A w (N #[v] t)).alloc (N #[.int I 0] u)).alloc (N #[v] t)):=br.alloc (by omega) _;refine⟨by simp,⟨?_,?_⟩,?_,(h.cell (p:=(Q (J (U w)) 0 Z)) (j4 _)).trans (by simp)⟩;{refine(g.cell (p:=(Q (J (U w)+1) 0 Z)) (j4 _)).trans ?_;rw[<-b];clear h g b f;generalize A w (N #[v] t)=W;simp};{refine(g.frozen (p:=(Q (J (U w)+1) 0 Z)) (j4 _)).trans ?_;rw[<-b];clear h g b f;generalize A w (N #[v] t)=W;simp};{rw[<-f];clear h g b f;generalize (A w (N #[v] t)).alloc (N #[.int I 0] u)=W;simp}
theorem vw (b off n cap:Nat)(f:Nat->au)(w:E)(hA:fC f n)(hn1:1<=n)(hn:(n:Int)<=400)(ZM:RowDeed w b off n f)(hlk:∀p,p<n->(f p).f<=200):Calls Pg 135 #[.agg #[Y (T (Q b off Z)) n cap]] w λe w'=>e=ZF (.int I (aY f (aD f n)))/\Below (J (U w)) w w':=by
 refine(callsIn_wide (n:=3)).1 ?_;have ZK:=ae ZM;have HA:=ae hA;have X:=ae hlk;clear ZM hA hlk;obtain⟨W,D⟩:∃W:E,((A w (N #[Y (T (Q b off Z)) n cap] 25)).alloc (N #[.int I 0] 3)).alloc (N #[Y (T (Q b off Z)) n cap] 25)=W:=⟨_,rfl⟩
 obtain⟨t,-,-,-,-⟩:=nb3 D;replace t:=t.out;have G:=ae D;clear D;have R:=ae t;clear t;have ZS:=ae (xQ w (Y (T (Q b off Z)) n cap) 25 3);refine callsIn_of_wp_marks func135 rfl trivial ?_ rfl;simp only[ntmps135,NM,xT,KF,Nat.reduceAdd,Nat.reduceSub,OJ,ON,QB,OV,LA,MC];gi_wp2_with (refine⟨trivial,?_⟩;gi_at_call 165;refine(pB _ _ _).mono ?_;rintro e w' ⟨rfl,rfl⟩);rw[G.out] at ZS ⊢;clear G;have hsz:=ZS.size;obtain⟨H,ZP⟩:=ZS.r;have ZI:=ZS.a0;refine iZ (F:=Fence.wide) rfl (by omega) (gf:=188) (lb:=#[.pointer (T (Q (J (U w)+1+1) 0 Z))]) rfl trivial (enters_of func188 (by kernel_rfl) rfl) (base:=J (U w)) (by omega)
  (nJ w b off n cap (J (U w)+1+1) (3 - 1) f W HA hn1 hn ZK X R ZS.a (by omega)) br (λ_=>rfl)
  (λpre q=>z q (Q (J (U w)) 0 Z)=T (Y (T (Q b off Z)) n cap)/\z q (Q (J (U w)+1) 0 Z)=T (.int I 0)/\q.frozen? (Q (J (U w)+1) 0 Z)=ZA/\Hid (aY f pre=-1)/\Hid (Below (J (U w)) w q))
  (λc pre q=>c=.ret/\z q (Q (J (U w)+1) 0 Z)=T (.int I (aY f pre))/\Hid (aY f pre≠-1)/\Hid (Below (J (U w)) w q))
  (λs ZR B h o=>⟨(o.cell (p:=(Q (J (U w)) 0 Z)) (by show (J (U w))<J (U W);omega)).trans h.1,(o.cell (p:=(Q (J (U w)+1) 0 Z)) (by show (J (U w))+1<J (U W);omega)).trans h.2.1,(o.frozen (p:=(Q (J (U w)+1) 0 Z)) (by show (J (U w))+1<J (U W);omega)).trans h.2.2.1,h.2.2.2.1,h.2.2.2.2.trans (o.mono (by omega))⟩)
  (λc s ZR B h o=>⟨h.1,(o.cell (p:=(Q (J (U w)+1) 0 Z)) (by show (J (U w))+1<J (U W);omega)).trans h.2.1,h.2.2.1,h.2.2.2.trans (o.mono (by omega))⟩)
  ⟨ZI,H,ZP,rfl,R⟩
  (λx=>{ tmps:=#[.agg #[Y (T (Q b off Z)) n cap],.pointer (T (Q (J (U w)) 0 Z)),.pointer (T (Q (J (U w)+1) 0 Z)),.int I (x.1:Int),.int I (x.2:Int),.agg #[Y (T (Q b off Z)) n cap],.func (.func 188) #[] #[.pointer (T (Q (J (U w)+1+1) 0 Z))],.int I (x.1:Int),.int I (x.2:Int),undef,undef,undef,undef,undef,undef,undef,undef,undef,undef,undef,undef],defers:=[] }) ?assign ?body ?done ?stop
 case assign =>intro l x W K u;gi_wp2;exact u
 case body =>
  rintro l pre x i ZL ⟨V,m,C,y,j⟩ hlt hz;clear H ZP ZI;obtain⟨_,p1,_⟩:=(ZK.aa j ly).2 x.1 ZL;have hx0:(0:Int)<=(x.1:Int):=by omega
  have hxn:(x.1:Int)<n:=by omega
  have ZO:=ae (vv (x:=x) y);have U1:=ae (Upd.setCell (P:=λk=>J (U w)<=k/\k<J (U W)) i (p:=(Q (J (U w)+1) 0 Z)) ⟨by show _<=_+1;omega,by show _+1<_;omega⟩ (.int I (x.1:Int)));have M:=ae (j.setCell (p:=(Q (J (U w)+1) 0 Z)) (by show _<=_+1;omega) (.int I (x.1:Int)));have O:=ae (BO i (Q (J (U w)+1) 0 Z) (.int I (x.1:Int)) (by rw[m];rfl));cases h3:((f x.1).L == 3) with
  |false =>
   have g:Hid (aY f (pre++[x])=-1):=by show _=_;rw[ZO.out,eT (by intro h;rw[h.1] at h3;simp at h3)]
   gi_wp2;exact⟨Upd.refl _ _,V,m,C,g,j⟩
  |true =>
   by_cases h6:(60:Int)<=(x.2:Int)
   ·have g:Hid (aY f (pre++[x])=(x.1:Int)):=by show _=_;rw[ZO.out,j6 ⟨by simpa using h3,by omega⟩]
    gi_wp2;exact⟨U1,rfl,by rw[g.out];exact O,by show _≠_;rw[g.out];omega,M⟩
   ·have g:Hid (aY f (pre++[x])=-1):=by show _=_;rw[ZO.out,eT (by intro h;omega)]
    gi_wp2;exact⟨Upd.refl _ _,V,m,C,g,j⟩
 case done =>rintro ZJ ys i L rfl ⟨_,m,C,y,j⟩ u;have S:=ae ((KeepsOthers.setCell i (Q (J (U w)+1) 0 Z) (.int I (-1))).same ZJ _ u rfl);have M:=ae (j.setCell (p:=(Q (J (U w)+1) 0 Z)) (by show _<=_+1;omega) (.int I (-1)));have O:=ae (BO i (Q (J (U w)+1) 0 Z) (.int I (-1)) (by rw[m];rfl));gi_wp2;refine⟨by simp,.inl ⟨_,_,rfl,run_takeDeferred S,?_⟩⟩;have ZQ:=dE (n:=J (U W)) (i.setCell (Q (J (U w)+1) 0 Z) (.int I (-1))) L (DN.1 S).1 (.deferred Z);have c:=(ZQ.cell (p:=(Q (J (U w)+1) 0 Z)) (by show (J (U w))+1<J (U W);omega)).trans O;exact⟨.int I (-1),by simp[results,results135,go_sem,c],by rw[y.out],M.trans (ZQ.mono (by omega))⟩
 case stop =>rintro ZJ c pre i L ZN ⟨rfl,m,y,j⟩ u;gi_wp2;refine⟨by simp,.inl ⟨_,_,rfl,run_takeDeferred u,?_⟩⟩;have ZQ:=dE (n:=J (U W)) i L (DN.1 u).1 (.deferred Z);have c:=(ZQ.cell (p:=(Q (J (U w)+1) 0 Z)) (by show (J (U w))+1<J (U W);omega)).trans m;exact⟨.int I (aY f pre),by simp[results,results135,go_sem,c],by rw[sF ZN y.out],j.trans (ZQ.mono (by omega))⟩
theorem pD (g:Nat->Bool)(n:Nat):aI g n=-1∨0<=aI g n:=by
 induction n with
 |zero=>exact .inl rfl
 |succ k b =>
  rw[aI];split;{split;{exact .inl rfl};{exact .inr (by omega)}};{exact b}
theorem Bv (i:Nat)(b:List (Nat × Nat)):bB i b=-1∨0<=bB i b:=by
 induction b generalizing i with
 |nil=>exact .inl rfl
 |cons x b f =>
  rw[bB];split;{exact f _};{exact .inr (by omega)}
theorem rz (f:Nat->au)(b:List (Nat × Nat)):aY f b=-1∨0<=aY f b:=by
 induction b with
 |nil=>exact .inl rfl
 |cons x b g =>
  rw[aY];split;{exact .inr (by omega)};{exact g}
theorem oq (h:aI (bi f) n=-1):∀p,p<n->(f p).f<=200:=by
 intro p b;have h1:=ep h p b;simp only[bi,nD,kindOk] at h1;obtain⟨_,h2⟩:=h1;split at h2;{simp[aU] at h2;omega};{split at h2;{simp[aU] at h2;omega};{split at h2;{simp only[bW,nD,p6] at h2;omega};{cases h2}}}
theorem Bw (h:aI (bi f) n=-1):∀p,p<n->(f p).e.size<=maxLen:=by intro p b;have h1:=ep h p b;simp only[bi,aB,nD,p6] at h1;unfold maxLen;omega
theorem jR (i:fC f n)(hn:1<=n):(aD f n).length<=n:=by
 have h:=(qj i n (n - 1) 0 (λ_=>ZA) (by omega) (by omega) rfl).num;have h2:=F0 (lst f n (n - 1) 0 (λ_=>ZA)).1 n;have g:∀k,cnt (λ_=>ZA) k=0:=by
  intro k;induction k with
  |zero=>rfl
  |succ j b=>rw[cnt,b];rfl
 rw[g] at h;unfold aD;omega
structure GK (w:E)(b:Nat)(v0 v1 v2 v3:ZB):Prop where
 lt:b<J (U w)
 c0:z w (Q b 0 Z)=T v0
 c1:z w (Q b 1 Z)=T v1
 c2:z w (Q b 2 Z)=T v2
 c3:z w (Q b 3 Z)=T v3
theorem EO (w:E)(b f g h:ZB)(t:ZH):GK (A w (N #[b,f,g,h] t)) (J (U w)) b f g h:=⟨by simp,by simp,by simp,by simp,by simp⟩
theorem vA (a:Option Addr)(n cap:Nat)(f:Nat->au)(w:E)(hn:(n:Int)<=1048576)(V:SlDeed w a n f)(L:(n:Int)<=cap)(ZQ:∀i,i<n->dw (f i))(ZM:Tab w):Calls Pg 86 #[.agg #[Y a n cap]] w λe w'=>e=ZF (.tuple #[.int I (dh f n).1,.int I (dh f n).2])/\Below (J (U w)) w w':=by
 have ZI:=ae V;have HM:=ae ZQ;have ZL:=ae ZM;clear V ZQ ZM;have G:=ae ((BS w).alloc ly (N #[Y a n cap] 25));have S:(A w (N #[Y a n cap] 25)).cell? (Q (J (U w)) 0 Z)=T (Y a n cap):=by simp
 obtain⟨c1,c2,q⟩:∃c1 c2,dh f n=(c1,c2):=⟨_,_,rfl⟩
 rw[q];have B:=ae q;clear q;by_cases ZJ:(n:Int)=0
 ·have g:c1=1/\c2=0:=by have:=B.out;unfold dh at this;rw[j6 (.inl (by omega))] at this;simp only[KH] at this;omega
  clear B;obtain⟨g,r⟩:=g;subst g r;obtain rfl:n=0:=by omega
  go_enter func86,ntmps86;go_wp2;go_ret2;exact⟨rfl,G⟩
 by_cases h4:(400:Int)<(n:Int)
 ·have g:c1=1/\c2=0:=by have:=B.out;unfold dh at this;rw[j6 (.inr (by omega))] at this;simp only[KH] at this;omega
  clear B;obtain⟨g,r⟩:=g;subst g r;have R:((n:Int) == 0)=ZA:=by simpa using ZJ
  go_enter func86,ntmps86;go_wp2;go_ret2;exact⟨rfl,G⟩
 have u:Hid ((if aI (bi f) n≠-1 then ((2:Int),aI (bi f) n) else if aI (λp=>aR f p p) n≠-1 then (3,aI (λp=>aR f p p) n) else if bB 0 (aD f n)≠-1 then (4,bB 0 (aD f n)) else if aY f (aD f n)≠-1 then (5,aY f (aD f n)) else (0,0))=(c1,c2)):=by have:=B.out;unfold dh at this;rw[eT (by omega)] at this;exact this
 clear B;obtain⟨b,off,rfl,C⟩:=ZI.resolve_left (by omega);have ZO:=ae C;have R:((n:Int) == 0)=ZA:=by simpa using ZJ
 clear ZI C;have t:(n:Int)<=400:=by omega
 have M:=ae (G.alloc (by simp) (N #[.func (.func 132) #[] #[],.func (.func 133) #[] #[],.func (.func 134) #[] #[],.func (.func 135) #[] #[]] 205));go_enter func86,ntmps86;go_wp2;have K:(A w (N #[Y (T (Q b off Z)) n cap] 25)).heap.size=J (U w)+1:=by simp
 have o:=ae (EO (A w (N #[Y (T (Q b off Z)) n cap] 25)) (.func (.func 132) #[] #[]) (.func (.func 133) #[] #[]) (.func (.func 134) #[] #[]) (.func (.func 135) #[] #[]) 205);rw[K] at o;have ZK:=(((cM (J (U w)+1) (A w (N #[Y (T (Q b off Z)) n cap] 25))).alloc (by omega) (N #[.func (.func 132) #[] #[],.func (.func 133) #[] #[],.func (.func 134) #[] #[],.func (.func 135) #[] #[]] 205)).cell (p:=(Q (J (U w)) 0 Z)) (j4 _)).trans S;clear K S G;generalize World.alloc (World.alloc w _) _=W at M o ZK ⊢;have x:J (U w)+1<J (U W):=o.lt;go_loopw [21] (λi wr=>∃k:Nat,k<=4/\i=.int I k/\Hid (1<=k->aI (bi f) n=-1)/\Hid (2<=k->aI (λp=>aR f p p) n=-1)/\Hid (3<=k->bB 0 (aD f n)=-1)/\Hid (4<=k->aY f (aD f n)=-1)/\Hid (Below (J (U W)) W wr)) (λi _=>4 - (intOf i).toNat);case atStart=>exact⟨0,by omega,rfl,λh=>by omega,λh=>by omega,λh=>by omega,λh=>by omega,cM _ _⟩
 case round =>
  obtain⟨k,hk,rfl,j,ZP,ZN,H4,m⟩:=hrel;have k2:=(m.cell (p:=(Q (J (U w)) 0 Z)) (by show (J (U w))<_;omega)).trans ZK;have l:=ae (M.trans (m.mono M.size));by_cases hlt:k<4
  ·rcases(show(True/\k=0)∨(True/\k=1)∨(True/\k=2)∨(True/\k=3) by rcases(show k=0∨k=1∨k=2∨k=3 by omega) with h|h|h|h<;>simp[h]) with ⟨M0,rfl⟩|⟨M1,rfl⟩|⟨M2,rfl⟩|⟨M3,rfl⟩
   all_goals
    first
     |(guard_hyp M0;have O:=(m.cell (p:=(Q (J (U w)+1) 0 Z)) x).trans o.c0;have ZS:=ae (su b off n cap f _ t (ZO.aa l ly) L HM (ZL.aa l ZL.1));have ZR:=ae (pD _ _:aI (bi f) n=-1∨0<=aI (bi f) n);obtain⟨X,hX⟩:∃X,X=aI (bi f) n:=⟨_,rfl⟩)
     |(guard_hyp M1;have O:=(m.cell (p:=(Q (J (U w)+1) 1 Z)) x).trans o.c1;have ZS:=ae (sE b off n cap f _ t (ZO.aa l ly) (Bw (j (by omega))));have ZR:=ae (pD _ _:aI (λp=>aR f p p) n=-1∨0<=aI (λp=>aR f p p) n);obtain⟨X,hX⟩:∃X,X=aI (λp=>aR f p p) n:=⟨_,rfl⟩)
     |(guard_hyp M2;have O:=(m.cell (p:=(Q (J (U w)+1) 2 Z)) x).trans o.c2;have ZS:=ae (sG b off n cap f _ (gP (j (by omega))) (by omega) t (ZO.aa l ly) (oq (j (by omega))) (by have:=jR (gP (j (by omega))) (n:=n) (by omega);omega));have ZR:=ae (Bv _ _:bB 0 (aD f n)=-1∨0<=bB 0 (aD f n));obtain⟨X,hX⟩:∃X,X=bB 0 (aD f n):=⟨_,rfl⟩)
     |(guard_hyp M3;have O:=(m.cell (p:=(Q (J (U w)+1) 3 Z)) x).trans o.c3;have ZS:=ae (vw b off n cap f _ (gP (j (by omega))) (by omega) t (ZO.aa l ly) (oq (j (by omega))));have ZR:=ae (rz _ _:aY f (aD f n)=-1∨0<=aY f (aD f n));obtain⟨X,hX⟩:∃X,X=aY f (aD f n):=⟨_,rfl⟩)
    rw[<-hX] at ZS ZR;have D:=ae hX;clear hX;go_wp2_with fail;refine ZS.mono ?_;rintro e w2 ⟨rfl,P⟩;have G1:=ae (l.trans (P.mono l.size));have s:=ae (m.trans (P.mono m.size));clear P ZS;by_cases y:X=-1
    ·have H:=ae (D.symm.trans y)
     have hd:decide (0<=X)=ZA:=by rw[y];rfl
     clear y;go_wp2;first
      |(guard_hyp M0;exact⟨⟨0+1,by omega,by go_num,λ_=>H,λh=>by omega,λh=>by omega,λh=>by omega,s⟩,by simp[intOf]⟩)
      |(guard_hyp M1;exact⟨⟨1+1,by omega,by go_num,λ_=>j (by omega),λ_=>H,λh=>by omega,λh=>by omega,s⟩,by simp[intOf]⟩)
      |(guard_hyp M2;exact⟨⟨2+1,by omega,by go_num,λ_=>j (by omega),λ_=>ZP (by omega),λ_=>H,λh=>by omega,s⟩,by simp[intOf]⟩)
      |(guard_hyp M3;exact⟨⟨3+1,by omega,by go_num,λ_=>j (by omega),λ_=>ZP (by omega),λ_=>ZN (by omega),λ_=>H,s⟩,by simp[intOf]⟩)
    ·have g:=u.out
     (try rw[eT (by rw[j.out (by omega)];simp)] at g)
     (try rw[eT (by rw[ZP.out (by omega)];simp)] at g)
     (try rw[eT (by rw[ZN.out (by omega)];simp)] at g)
     rw[j6 (by rw[<-D.out];exact y),<-D.out] at g;simp only[KH] at g;have hge:0<=X:=ZR.resolve_left y;obtain⟨g,r⟩:=g;clear u y ZR;subst g r;go_wp2;go_ret2;exact⟨rfl,G1⟩
  ·obtain rfl:k=4:=by omega
   have g:c1=0/\c2=0:=by have:=u.out;rw[eT (by rw[j.out (by omega)];simp),eT (by rw[ZP.out (by omega)];simp),eT (by rw[ZN.out (by omega)];simp),eT (by rw[H4.out (by omega)];simp)] at this;simp only[KH] at this;omega
   obtain⟨g,r⟩:=g;clear u;subst g r;go_wp2;go_ret2;exact⟨rfl,l⟩
