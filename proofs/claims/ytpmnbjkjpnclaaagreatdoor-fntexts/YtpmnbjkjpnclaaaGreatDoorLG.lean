import Derived.Test.YtpmnbjkjpnclaaaGreatDoorMC
import Derived.RangeFuncNested
import Derived.RangeFuncBound
import Derived.RangeFuncCalls
import Derived.RangeFuncLeaves
import Derived.Shelf.Abstract
import Derived.Shelf.RegionOpen
import Derived.OwnWalkIn
import Derived.TacticsInMore
import Derived.LoopNIn
import Derived.LoopIn
import Derived.Sort.QuietIn
import Derived.Sort.BigQuietIn
import Derived.Sort.CutIn
import Derived.Test.YtpmnbjkjpnclaaaGreatDoorMF
import Derived.Maps.OwnSet
import Derived.Maps.Views
import Derived.StringKeys
set_option maxRecDepth 100000
set_option maxHeartbeats 4000000
set_option linter.unusedSimpArgs false
open Go renaming Addr.mk->N,Value.slice->Y,Obj.cells->J,IntKind.i64->I,World->M,Value->ZB,TypeId->ZH,Ending.returned->ZD,World.heap->U,World.alloc->A,World.cell?->z,Proofs.Tryz.prog->Pg
open Option renaming none->Z,some->T
open Bool renaming false->ZA,true->ZF
open Array renaming size->Q
namespace Go.Proofs.YtpmnbjkjpnclaaaGreatDoor.Vp
open Tryz RowKit
variable {n l b off cap n1 L ZQ i m:Nat}{W g:M}{f:Nat->aj}{s:Nat->Bool}{pre:List (Nat × Nat)}{ZL:ZH}{P:Program}{R:Ending->M->Prop}{x:Nat × Nat}
theorem CP{k:Nat}{D:DataW Unit}(b:Maps.IsMap D)(h:∀p,Maps.has D (.string (f p).e.data.toList)=!aU f p k)(d:DataW Unit):∀p,Maps.has (D.put (.string (f k).e.data.toList) d) (.string (f p).e.data.toList)=!aU f p (k+1):=by
 intro p;rw[aU,Bool.not_and,<-h p,Bool.not_not];by_cases e:(f p).e.data.toList=(f k).e.data.toList;{rw[e,Maps.has_put_same b (by simp[WideAt.IsKeyLit])];simp[JO,e]}
 ·rw[TF (by simpa using e)];have:((f k).e.toList == (f p).e.toList)=ZA:=by simpa[JO] using λh=>e (by rw[h])
  rw[this];simp
theorem qO (b off n cap:Nat)(f:Nat->aj)(w:M)(hn:(n:Int)<=400)(O:RowDeed w b off n f)(ZK:∀i,i<n->(f i).e.size<=maxLen):Calls Pg 149 #[.agg #[Y (T (N b off Z)) n cap]] w λe w'=>e=ZD (.int I (aK (λp=>aU f p p) n))/\Below (Q (U w)) w w':=by
 have HF:=ae O;have ZJ:=ae ZK;clear O ZK;have L:=ae (((BS w).alloc ly (J #[Y (T (N b off Z)) n cap] 37)).alloc (by simp) (.map #[] 0));have B:=ae (TG (A w (J #[Y (T (N b off Z)) n cap] 37)) Pg 9 (plainElem (H:=Unit) Pg 3));have hz:(A w (J #[Y (T (N b off Z)) n cap] 37)).heap.size=Q (U w)+1:=by simp
 rw[hz] at B;clear hz;obtain⟨r,ZP⟩:∃r,r=aK (λp=>aU f p p) n:=⟨_,rfl⟩
 rw[<-ZP];have ZQ:=ae ZP;clear ZP;have ZN:=@run_makeMap Pg;go_enter func149,ntmps149;go_wp2;clear ZN;generalize World.alloc (World.alloc w _) _=W at L B ⊢;obtain⟨o,q⟩:∃o,o=Q (U w)+1:=⟨_,rfl⟩
 rw[<-q] at B ⊢;have ZM:=ae q;clear q;go_loopw [12] (λi wr=>∃(k:Nat) (D:DataW Unit),k<=n/\i=.int I k/\Hid (∀j,j<k->aU f j j=ZF)/\Hid (wr.ownsMap Pg 9 (plainElem (H:=Unit) Pg 3) o k D)/\Hid (∀p,Maps.has D (.string (f p).e.data.toList)=!aU f p k)/\Hid (Below (Q (U w)) w wr)) (λi _=>n - (intOf i).toNat);case atStart=>exact⟨0,_,by omega,rfl,λj ZL=>absurd ZL (JI _),B,λp=>rfl,L⟩
 case round =>
  obtain⟨k,D,hk,rfl,ZO,C,S,h⟩:=hrel;by_cases ZR:k<n
  ·obtain⟨p0,p1,p2,p3,⟨a0,t,p4,ZI⟩,⟨a1,u,p5,q5⟩⟩:=(HF.aa h ly).2 k ZR;clear ZI q5;have s:=LP (P:=Pg) (k:=9) IN (ZJ k ZR);have l:=ae s;have G:=ae (S k);clear s;cases hnew:aU f k k with
   |false =>
    have ZS:Maps.has D (.string (f k).e.data.toList)=ZF:=by rw[G.out,hnew];rfl
    have HHS:=ae ZS;obtain rfl:r=k:=by rw[ZQ.out];exact eW ZR hnew ZO
    clear hnew;have K:=ae (h.alloc h.size (J #[.string (f k).e,.int I (f k).H,.int I (f k).E,.string (f k).y,Y a0 (f k).m t,Y a1 (f k).l u] 46));go_wp2_with (at_lookup;refine wpList_lookup_own_ok_int _ rfl _ _ 281 rfl 9 3 I (MZ IN) TH J0 (LE _) o k D rfl (C.alloc _) _ _ rfl l ?_;intro c y x;clear y x);go_ret;exact⟨rfl,K⟩
   |true =>
    have ZS:Maps.has D (.string (f k).e.data.toList)=ZA:=by rw[G.out,hnew];rfl
    have V:=ae hnew;clear hnew;have E:(Lit.int I (k:Int)).wf=ZF:=by simp only[Lit.wf,IntKind.min,IntKind.max,IntKind.signed,IntKind.bits,p6,xT,if_true];omega
    have R:=ae E;clear E
    go_wp2_with (first
     |(at_lookup;refine wpList_lookup_own_ok_int _ rfl _ _ 281 rfl 9 3 I (MZ IN) TH J0 (LE _) o k D rfl (C.alloc _) _ _ rfl l ?_;intro c y x;clear y x)
     |(at_mapUpdate;refine RP _ rfl _ _ _ 281 rfl 9 3 (MZ IN) TH _ o k D rfl (C.alloc _) (by unfold maxLen;omega) _ _ _ rfl rfl l _ [] (plainElem_int J0 R) ?_;intro w1 m g;have X:=ae m;have K:=ae (bg (h.alloc h.size (J #[.string (f k).e,.int I (f k).H,.int I (f k).E,.string (f k).y,Y a0 (f k).m t,Y a1 (f k).l u] 46)) g (by have:=h.size;simp;omega) (λj e=>by cases e;have:=ZM.out;omega));clear m g))
    exact⟨⟨k+1,_,by omega,by go_num,λj ZL=>by
     by_cases e:j=k;{subst e;exact V}
     ·exact ZO j (by omega),X,CP C.isMap S _,K⟩,by simp[intOf];omega⟩
  ·have e:n=k:=by omega
   subst e;obtain rfl:r=-1:=by rw[ZQ.out];exact eF ZO
   go_wp2;go_ret;exact⟨rfl,h⟩
open Go.Shelf Ca
attribute [local go_sem] Oper.semAt_some
structure LSt (w0 W:M)(n1 b off n cap L ZQ l:Nat)(s:Nat->Bool):Prop where
 c0:z W (N L 0 Z)=T (Y (T (N b off Z)) n cap)
 c1:z W (N L 1 Z)=T (Y (T (N ZQ 0 Z)) n n)
 c2:z W (N L 2 Z)=T (.func (.yield l) #[] #[])
 row:∀q,q<n->z W (N ZQ q Z)=T (.bool (s q))/\W.frozen? (N ZQ q Z)=ZA
 low:Below (Q (U w0)) w0 W
 hL:n1<=L/\L<Q (U W)
 hM:n1<=ZQ/\ZQ<Q (U W)
 ne:L≠ZQ
 hb:Q (U w0)<=n1
 tyM:OfTy W ZQ 4
 tyL:OfTy W L 246
theorem LSt.blocks{f:M}(h:LSt g W n1 b off n cap L ZQ l s)(hz:Q (U W)<=Q (U f))(m:f.heap[L]?=W.heap[L]?)(i:f.heap[ZQ]?=W.heap[ZQ]?)(p:Below (Q (U g)) g f):LSt g f n1 b off n cap L ZQ l s:=by have c:∀o,z f (N L o Z)=z W (N L o Z):=λo=>cq (a:=(N L o Z)) m;exact⟨(c 0).trans h.c0,(c 1).trans h.c1,(c 2).trans h.c2,λq j=>⟨(cq (a:=(N ZQ q Z)) i).trans (h.row q j).1,(JK (a:=(N ZQ q Z)) i).trans (h.row q j).2⟩,p,⟨h.hL.1,lj h.hL.2 hz⟩,⟨h.hM.1,lj h.hM.2 hz⟩,h.ne,h.hb,h.tyM.eq i,h.tyL.eq m⟩
theorem LSt.aa{f:M}(h:LSt f W n1 b off n cap L ZQ l s)(hb:Below (Q (U W)) W g):LSt f g n1 b off n cap L ZQ l s :=
 h.blocks hb.size (hb.block L h.hL.2) (hb.block ZQ h.hM.2) (h.low.trans (hb.mono h.low.size))
theorem LSt.upd{j:M}(i:ZL≠4/\ZL≠246)(h:LSt g W n1 b off n cap L ZQ l s)(f:Upd2 ZL (Q (U g)) n1 W j):LSt g j n1 b off n cap L ZQ l s :=
 h.blocks f.size (f.block L h.hL.2 (.inr ⟨h.hL.1,h.tyL.ne i.2⟩)) (f.block ZQ h.hM.2 (.inr ⟨h.hM.1,h.tyM.ne i.1⟩)) (h.low.trans (f.aa h.low.size))
theorem LSt.set{p:Nat}(h:LSt g W n1 b off n cap L ZQ l s)(hp:p<n):LSt g (W.setCell (N ZQ p Z) (.bool ZF)) n1 b off n cap L ZQ l (put s p):=by
 have c:∀o,(W.setCell (N ZQ p Z) (.bool ZF)).cell? (N L o Z)=z W (N L o Z):=λo=>sq _ _ _ _ (by simp;exact λe=>absurd e.symm h.ne);refine⟨(c 0).trans h.c0,(c 1).trans h.c1,(c 2).trans h.c2,λq f=>⟨?_,by simpa using(h.row q f).2⟩,h.low.setCell (by have:=h.hM.1;have:=h.hb;show _<=ZQ;omega) _,by simpa using h.hL,by simpa using h.hM,h.ne,h.hb,h.tyM.set _ _,h.tyL.set _ _⟩;by_cases e:q=p;{subst e;rw[DN _ _ _ (by rw[(h.row q f).1];rfl)];simp[put]};{rw[sq _ _ _ _ (by simp),(h.row q f).1];simp[put,e]}
theorem nZ{go:Nat->Nat->(Nat->Bool)->(Nat->Bool) × List (Nat × Nat)}{x:aj}{d:Nat}(h:i<=m):(lks go x d s i).2 <+: (lks go x d s m).2:=by
 induction m with
 |zero =>
  obtain rfl:i=0:=by omega
  exact SD
 |succ k b =>
  by_cases e:i=k+1;{subst e;exact SD};{refine(b (by omega)).trans ?_;rw[lks];split;{exact TI _ _};{exact SD}}
theorem CQ (hT:ZL≠4/\ZL≠246)(ZM:M)(n1 b off n cap L ZQ l:Nat)(H:List (Nat × Nat))(f:Nat->aj)(ZO Jx:List (Nat × Nat)->M->Prop)(hA:fm f n)(hn:(n:Int)<=400)(hf:RowDeed ZM b off n f)(hlk:∀p,p<n->(f p).l<=200)
  (hJ:∀s ZR C,ZO s ZR->Itr 4 n1 ZR C->ZO s C) (ld:∀s ZR C,Jx s ZR->Itr 4 n1 ZR C->Jx s C)
  (hY:∀m pre (x:Nat × Nat) W,x.1<n->ZO pre W->pre++[x] <+: H->n1<=Q (U W)->YieldAt Fence.wide m Pg l #[.int I (x.1:Int),.int I (x.2:Int)] W λe B =>
   (e=ZD (.bool ZF)/\ZO (pre++[x]) B/\Upd2 ZL (Q (U ZM)) n1 W B)∨(e=ZD (.bool ZA)/\Jx (pre++[x]) B)) :
  ∀(k p d:Nat) (s:Nat->Bool) (pre:List (Nat × Nat)) (W:M) (nn:Nat),p<k->p<n->d+p<=1000->LSt ZM W n1 b off n cap L ZQ l s->s p=ZA->ZO pre W->pre++(lst f k p d s).2 <+: H ->
   CallsIn Fence.wide nn Pg 172 #[.pointer (T (N L 0 Z)),.int I (p:Int),.int I (d:Int)] W λe B =>(e=ZD (.bool ZF)/\ZO (pre++(lst f k p d s).2) B/\LSt ZM B n1 b off n cap L ZQ l (lst f k p d s).1)∨(e=ZD (.bool ZA)/\∃q,q <+: (lst f k p d s).2/\Jx (pre++q) B):=by
 intro k;induction k with
 |zero=>intro p d s pre W nn h;omega
 |succ k ih =>
  intro p d s pre W nn hpk G hdp hS hs ur hN;have HS:=ae hS;have CD:=ae ur;have HN:=ae hN;have Fm:=ae ih;have HY:=ae hY;have ZN:=ae hJ;have HJx:=ae ld;have HA:=ae hA;have HF:=ae hf;obtain⟨_,_,_,_,_,⟨a1,cap1,ph,q5⟩⟩:=hf.2 p G;have p5:=(hS.low.cell (p:=(N b (off+p*6+5) Z)) hf.1).trans ph;obtain⟨m,hm⟩:∃m,m=(f p).l:=⟨_,rfl⟩
  have hm2:m<=200:=by rw[hm];exact hlk p G
  rw[<-hm] at p5 q5;have HL:=ae q5;have HM:=ae hm;have e0:=hS.c0;obtain⟨K,V⟩:∃K,K=lks (lst f k) (f p) d s:=⟨_,rfl⟩
  have ZP:Hid (lst f (k+1) p d s=(put (K m).1 p,(K m).2++[(p,d)])):=by rw[V,hm];rfl
  have ro:Hid (K 0=(s,[])):=by rw[V];rfl
  have Fd:Hid (∀j,K (j+1)=if ((f p).u j).ask=ZF/\(K j).1 ((f p).u j).G.toNat=ZA then ((lst f k ((f p).u j).G.toNat (d+1) (K j).1).1,(K j).2++(lst f k ((f p).u j).G.toNat (d+1) (K j).1).2) else K j):=λj=>by rw[V];rfl
  have FK:Hid (∀i,i<=m->(K i).2 <+: (K m).2):=λi hi=>by rw[V];exact nZ hi
  clear hS ur hN ih hY hJ ld hA hf q5 hm hlk ph V;refine T3 func172 rfl trivial ?_ rfl;simp only[ntmps172,LG,BG,JJ,Nat.reduceAdd,Nat.reduceSub,LV,LX,NA,MF,JW,J8];gi_wp2;clear e0 p5;gi_loopw [18] (λi wr=>∃j:Nat,j<=m/\i=.int I j/\Hid (LSt ZM wr n1 b off n cap L ZQ l (K j).1)/\Hid (ZO (pre++(K j).2) wr)) (λi _=>m - (intOf i).toNat);case atStart=>exact⟨0,by omega,rfl,by rw[ro.out];exact HS,by rw[ro.out,List.append_nil];exact CD⟩
  case round =>
   obtain⟨j,hj,rfl,g,n9⟩:=hrel;by_cases DQ:j<m
   ·obtain⟨lb,lo,rfl,ZJ⟩:=(HL.aa g.low ly).resolve_left (by omega);obtain⟨d0,d1,d2,d3⟩:=ZJ.2 j DQ;clear ZJ;have ZI:=Fd.out j;have ex:=HA.out p G j (by have:=HM.out;omega);generalize (f p).u j=x at d0 d1 d2 d3 ZI ex;have aq:=ae ZI;clear ZI;have E:=ae (g.aa (br.alloc ly (J #[.string x.e,.bool x.ask,.bool x.has,.int I x.G] 91)));have J1:=ae (ZN _ _ _ n9 (Itr.q ((BS wr).alloc ly (J #[.string x.e,.bool x.ask,.bool x.has,.int I x.G] 91)) ly (by have:=g.hL;omega)));have e1:(A wr (J #[.string x.e,.bool x.ask,.bool x.has,.int I x.G] 91)).cell? (N (Q (U wr)) 1 Z)=T (.bool x.ask):=by simp
    have e3:(A wr (J #[.string x.e,.bool x.ask,.bool x.has,.int I x.G] 91)).cell? (N (Q (U wr)) 3 Z)=T (.int I x.G):=by simp
    have qr:=ae ex;clear ex;gi_upto_region 4 with fail;clear d0 d1 d2 d3;generalize World.alloc wr _=D at E J1 e1 e3 ⊢;generalize (Q (U wr))=X at e1 e3 ⊢;cases hask:x.ask with
    |false =>
     have o:K (j+1)=K j:=by rw[aq.out,eT (by rw[hask];simp)]
     have t:=ae o;clear o;rw[hask] at e1;have Bk:∀f,Fence.wide.fn f=True:=λ_=>rfl;gi_quiet (fail);have P:=ae (E.aa (E9 (BS D) nq));have J2:=ae (ZN _ _ _ J1 (Itr.q (E9 (BS D) nq) ly (by have:=E.hL;omega)));gi_wp2;exact⟨⟨j+1,by omega,by go_num,by rw[t.out];exact P,by rw[t.out];exact J2⟩,by simp[intOf];omega⟩
    |true =>
     obtain⟨q,ZK⟩:∃q:Nat,x.G=(q:Int):=⟨x.G.toNat,by have:=(qr hask).2;omega⟩
     have hqp:q<p:=by have:=(qr hask).1;rw[ZK] at this;simpa using this
     rw[ZK] at e3;rw[hask] at e1;have f1:=E.c1;obtain⟨f2,_⟩:=E.row q (by omega);have hq0:(0:Int)<=q:=by omega
     have hqn:(q:Int)<n:=by omega
     have Bk:∀f,Fence.wide.fn f=True:=λ_=>rfl;cases hl:(K j).1 q with
     |true =>
      have o:K (j+1)=K j:=by rw[aq.out,eT (by rw[ZK];simp[hl])]
      have t:=ae o;clear o;rw[hl] at f2;gi_quiet (fail);have P:=ae (E.aa (E9 (BS D) nq));have J2:=ae (ZN _ _ _ J1 (Itr.q (E9 (BS D) nq) ly (by have:=E.hL;omega)));gi_wp2;exact⟨⟨j+1,by omega,by go_num,by rw[t.out];exact P,by rw[t.out];exact J2⟩,by simp[intOf];omega⟩
     |false =>
      have o:K (j+1)=((lst f k q (d+1) (K j).1).1,(K j).2++(lst f k q (d+1) (K j).1).2):=by rw[aq.out,nL ⟨hask,by rw[ZK];simpa using hl⟩,ZK];simp
      have t:=ae o;have bt:=FK.out (j+1) (by omega);rw[o] at bt;have mv:=ae bt;have fd:((d+1:Nat):Int)=(d:Int)+1:=by omega
      have HC:Hid (∀R nn,LSt ZM R n1 b off n cap L ZQ l (K j).1->ZO (pre++(K j).2) R->CallsIn Fence.wide nn Pg 172 #[.pointer (T (N L 0 Z)),.int I (q:Int),.int I ((d:Int)+1)] R λe B =>
        ∃r:Bool,e=ZD (.bool r)/\Hid ((r=ZF/\ZO (pre++(K (j+1)).2) B/\LSt ZM B n1 b off n cap L ZQ l (K (j+1)).1)∨(r=ZA/\∃q,q <+: (K m).2++[(p,d)]/\Jx (pre++q) B))):=by
       intro R nn h1 h2;have O:(pre++(K j).2)++(lst f k q (d+1) (K j).1).2 <+: H:=by have u:=HN.out;rw[ZP.out] at u;obtain⟨ZS,hz⟩:=u;obtain⟨y,S⟩:=mv.out;exact⟨y++[(p,d)]++ZS,by rw[<-hz];simp only[];rw[<-S];simp⟩
       have h:=Fm.out q (d+1) (K j).1 (pre++(K j).2) R nn (by omega) (by omega) (by omega) h1 hl h2 O;rw[fd] at h;refine h.mono λe B h=>?_;rcases h with ⟨he,hj,hs⟩|⟨he,q',DS,hx⟩
       ·exact⟨ZF,he,.inl ⟨rfl,by rw[t.out,<-KQ];exact hj,by rw[t.out];exact hs⟩⟩
       ·refine⟨ZA,he,.inr ⟨rfl,(K j).2++q',?_,by rw[<-KQ];exact hx⟩⟩
        obtain⟨ZS,hz⟩:=DS;obtain⟨y,S⟩:=mv.out;exact⟨ZS++y++[(p,d)],by rw[<-S,<-hz];simp⟩
      have At:=ae (E.aa ((BS D).drew));have DE:=ae (ZN _ _ _ J1 (Itr.q (BS D).drew ly (by have:=E.hL;omega)));have hwr:IntKind.i64.wrap ((d:Int)+1)=(d:Int)+1:=by rw[AI];omega
      clear o bt;rw[hl] at f2;gi_region_with ((try refine⟨λh=>(by cases h),?_⟩);gi_at_call 172;refine(HC _ _ ?_ ?_).mono ?_;(first|exact At|exact E);(first|exact DE|exact J1);rintro e W3 ⟨r,rfl,H3⟩);all_goals
       cases r with
       |true =>have u:=H3.resolve_right (λh=>by cases h.1);have S3:=ae u.2.2;have J3:=ae u.2.1;clear u H3;gi_wp2;exact⟨⟨j+1,by omega,by go_num,S3,J3⟩,by simp[intOf];omega⟩
       |false =>have u:=H3.resolve_left (λh=>by cases h.1);have X3:=ae u.2;clear u H3;gi_wp2;go_ret;rw[ZP.out];exact .inr ⟨rfl,X3⟩
   ·have e:m=j:=by omega
    subst e;have P:=ae (g.set G);have J2:=ae (ZN _ _ _ n9 (Itr.setCell wr (p:=(N ZQ p Z)) g.hM.1 g.tyM (.bool ZF)));have O:(pre++(K m).2)++[(p,d)] <+: H:=by have u:=HN.out;rw[ZP.out] at u;simpa using u
    have Fk:=HY.out (nn - 1) (pre++(K m).2) (p,d) _ G J2 O (by have:=g.hL;simp;omega);obtain⟨fn,tmps,assign,body,S,hR⟩:=Fk;dsimp only at S;have HR:=ae hR;clear hR;have g1:=g.c1;obtain⟨g3,g4⟩:=g.row p G;have g2:=P.c2;have hp0:(0:Int)<=p:=by omega
    have hpn':(p:Int)<n:=by omega
    gi_wp2;refine⟨λh=>(by cases h),HR.mono ?_⟩;rintro e W3 (⟨rfl,n8,th⟩|⟨rfl,sm⟩);{have J3:=ae n8;have S3:=ae (P.upd hT th);clear n8 th;gi_wp2;go_ret;rw[ZP.out];exact .inl ⟨rfl,by rw[<-KQ];exact J3,S3⟩};{have X3:=ae sm;clear sm;gi_wp2;go_ret;rw[ZP.out];exact .inr ⟨rfl,_,SD,by rw[<-KQ];exact X3⟩}
attribute [local go_sem] Oper.semAt_some
theorem zO{F:Fence}(g:F.depth=Z){f:FuncId}{tmps:Array ZB}{assign body:Code}{w:M}
  (h:RoundIn F m P l f tmps assign body w R):RoundIn F i P l f tmps assign body w R:=⟨h.1,λc b _=>h.2 c b (λd h=>by rw[g] at h;cases h)⟩
theorem zP{F:Fence}(b:F.depth=Z)(g:Nat){args:Array ZB}(h:YieldAt F m P l args W R):YieldAt F g P l args W R:=by obtain⟨fn,tmps,assign,body,f,hR⟩:=h;exact⟨fn,tmps,assign,body,f,zO b hR⟩
theorem zQ:(Pg.info? 4).map (λi=>(i.zero,i.size,i.bytes))=T (T (.bool ZA),1,1):=by kernel_rfl
def bk (n:Nat):Array ZB:=madeCells (Value.bool ZA).cells n
theorem xY (n:Nat)(hn:n<=1048576)(w:M):(Instr.makeSlice 106 (.int I (n:Int)) (.int I (n:Int))).run Pg w=.ok (Y (T (N (Q (U w)) 0 Z)) n n) (w.alloc (J (bk n) 4)):=by obtain⟨i,hi,hz⟩:=MG.1 zQ;simp only[JL] at hz;obtain⟨h1,h2,b⟩:=hz;have h:=run_make (P:=Pg) w 106 4 i _ underlying106 hi h1 I I n n (by omega) (TU _) (by rw[b];omega) (by omega);rw[h2] at h;simpa[bk] using h
theorem rN (n q:Nat)(h:q<n):(bk n)[q]?=T (.bool ZA):=by unfold bk madeCells;simp[Value.cells,h,Nat.mod_one]
theorem od (W:M)(n q:Nat)(h:q<n):(W.alloc (J (bk n) 4)).cell? (N (Q (U W)) q Z)=T (.bool ZA)/\(W.alloc (J (bk n) 4)).frozen? (N (Q (U W)) q Z)=ZA:=by
 have e:=gM W (J (bk n) 4);refine⟨?_,?_⟩;{rw[cell_of_row _ _ _ _ _ _ e];exact rN n q h};{unfold World.frozen?;rw[e];simp}
theorem zR (f:Below (Q (U g)) g W):LSt g ((W.alloc (J (bk n) 4)).alloc (J #[Y (T (N b off Z)) n cap,Y (T (N (Q (U W)) 0 Z)) n n,.func (.yield l) #[] #[]] 246)).drew (Q (U W)) b off n cap (Q (U W)+1) (Q (U W)) l (λ_=>ZA):=by
 have hz:(W.alloc (J (bk n) 4)).heap.size=Q (U W)+1:=by simp
 have D:Below (Q (U W)+1) (W.alloc (J (bk n) 4)) ((W.alloc (J (bk n) 4)).alloc (J #[Y (T (N b off Z)) n cap,Y (T (N (Q (U W)) 0 Z)) n n,.func (.yield l) #[] #[]] 246)).drew:=(br.alloc (by omega) _).drew;refine⟨?_,?_,?_,λq i=>?_,((f.alloc f.size _).alloc (by simp;have:=f.size;omega) _).drew,by simp,by simp;omega,by omega,f.size,?_,?_⟩;{simp};{simp};{simp};{exact⟨(D.cell (p:=(N (Q (U W)) q Z)) (AD _)).trans (od W n q i).1,(D.frozen (p:=(N (Q (U W)) q Z)) (AD _)).trans (od W n q i).2⟩};{exact(OfTy.new W _ _).eq (D.block _ (AD _))};{have h:=OfTy.new (W.alloc (J (bk n) 4)) #[Y (T (N b off Z)) n cap,Y (T (N (Q (U W)) 0 Z)) n n,.func (.yield l) #[] #[]] 246;rw[hz] at h;exact h.eq rfl}
theorem zT (f:Below (Q (U g)) g W):LSt g ((A W (J #[Y (T (N b off Z)) n cap,Y (T (N (Q (U W)+1) 0 Z)) n n,.func (.yield l) #[] #[]] 246)).alloc (J (bk n) 4)).drew (Q (U W)) b off n cap (Q (U W)) (Q (U W)+1) l (λ_=>ZA):=by
 have hz:(A W (J #[Y (T (N b off Z)) n cap,Y (T (N (Q (U W)+1) 0 Z)) n n,.func (.yield l) #[] #[]] 246)).heap.size=Q (U W)+1:=by simp
 have D:Below (Q (U W)+1) (A W (J #[Y (T (N b off Z)) n cap,Y (T (N (Q (U W)+1) 0 Z)) n n,.func (.yield l) #[] #[]] 246)) ((A W (J #[Y (T (N b off Z)) n cap,Y (T (N (Q (U W)+1) 0 Z)) n n,.func (.yield l) #[] #[]] 246)).alloc (J (bk n) 4)).drew:=(br.alloc (by omega) _).drew;refine⟨(D.cell (p:=(N (Q (U W)) 0 Z)) (AD _)).trans (by simp),(D.cell (p:=(N (Q (U W)) 1 Z)) (AD _)).trans (by simp),(D.cell (p:=(N (Q (U W)) 2 Z)) (AD _)).trans (by simp),λq i=>?_,((f.alloc f.size _).alloc (by simp;have:=f.size;omega) _).drew,by simp;omega,by simp,by omega,f.size,?_,?_⟩;{have h:=od (A W (J #[Y (T (N b off Z)) n cap,Y (T (N (Q (U W)+1) 0 Z)) n n,.func (.yield l) #[] #[]] 246)) n q i;rw[hz] at h;exact h};{have h:=OfTy.new (A W (J #[Y (T (N b off Z)) n cap,Y (T (N (Q (U W)+1) 0 Z)) n n,.func (.yield l) #[] #[]] 246)) (bk n) 4;rw[hz] at h;exact h.eq rfl};{exact(OfTy.new W _ _).eq (D.block _ (AD _))}
theorem oe (v:ZB)(w:M)(nn:Nat):CallsIn Fence.wide nn Pg 117 #[.agg #[v]] w λe b=>e=ZD (.func (.func 171) #[] #[.pointer (T (N (Q (U w)) 0 Z))])/\b=A w (J #[v] 37):=by refine T3 func117 rfl trivial ?_ rfl;simp only[ntmps117,LG,BG,JJ,Nat.reduceAdd,Nat.reduceSub,LV,LX,NA,MF,JW,J8];gi_wp2;go_ret;exact⟨rfl,rfl⟩
theorem rO (hT:ZL≠4/\ZL≠246)(i:M)(b off n cap t nn:Nat)(f:Nat->aj)(w:M)(hA:fm f n)(hn1:1<=n)(hn:(n:Int)<=400)(ZK:RowDeed i b off n f)(hlk:∀p,p<n->(f p).l<=200)(o:Below (Q (U i)) i w)(H:z w (N t 0 Z)=T (Y (T (N b off Z)) n cap))(y:t<Q (U w)):SeqT2 ZL 4 Fence.wide nn Pg 171 #[.pointer (T (N t 0 Z))] (λx:Nat × Nat=>#[Value.int I (x.1:Int),Value.int I (x.2:Int)]) (λpre x=>x.1<n/\pre++[x] <+: aE f n) (Q (U i)) (λg=>g=aE f n) (λpre=>pre <+: aE f n) w:=by
 intro l ZO P W ZR R C hY B;have V:=CQ hT i (Q (U W)) b off n cap;have D:=ae V;clear V;have hB:=(ZR.cell (p:=(N t 0 Z)) y).trans H;have ZI:=λw=>xY n (by omega) w;have hwb:IntKind.i64.wrap ((n:Int) - 1)=(n:Int) - 1:=by rw[AI];omega
 have K:=ae R;have E:=ae C;have HY:=ae hY;have H0:=ae B;have HA:=ae hA;have S:=ae ZK;have ZP:=ae hlk;have j:=ae (o.trans (ZR.mono o.size));have aq:t<Q (U W):=lj y ZR.size;clear R C hY B hA ZK hlk o ZR H y;refine T3 func171 rfl trivial ?_ rfl;simp only[ntmps171,LG,BG,JJ,Nat.reduceAdd,Nat.reduceSub,LV,LX,NA,MF,JW,J8];have G:∀L ZQ u,LSt i u (Q (U W)) b off n cap L ZQ l (λ_=>ZA)->Below (Q (U W)) W u->CallsIn Fence.wide (nn - 1) Pg 172 #[.pointer (T (N L 0 Z)),.int I ((n:Int) - 1),.int I 0] u λe s =>
   ∃r:Bool,e=ZD (.bool r)/\Hid ((∃g,g=aE f n/\ZO g s)∨(∃pre,pre <+: aE f n/\P pre s)):=by
  intro L ZQ u ZM ZJ;have h:=D.out L ZQ l (aE f n) f ZO P HA hn S ZP K E (λm pre x W1 B h1 h2 h3=>zP rfl m (HY pre x W1 ⟨B,h2⟩ h1 h3)) n (n - 1) 0 (λ_=>ZA) [] u (nn - 1) (by omega) (by omega) (by omega) ZM rfl (K _ _ _ H0 (Itr.q ZJ ly  ly)) (by simp[aE]);rw[show((n - 1:Nat):Int)=(n:Int) - 1 by omega] at h;refine h.mono λe s h=>?_;rcases h with ⟨O,hj,_⟩|⟨O,q,hq,hx⟩
  ·exact⟨ZF,O,.inl ⟨_,rfl,by simpa[aE] using hj⟩⟩
  ·exact⟨ZA,O,.inr ⟨q,hq,by simpa using hx⟩⟩
 have ZS:=ae G;have D1:=ae (((BS W).alloc ly (J (bk n) 4)).alloc (by simp) (J #[Y (T (N b off Z)) n cap,Y (T (N (Q (U W)) 0 Z)) n n,.func (.yield l) #[] #[]] 246)).drew;have X:=ae (((BS W).alloc ly (J #[Y (T (N b off Z)) n cap,Y (T (N (Q (U W)+1) 0 Z)) n n,.func (.yield l) #[] #[]] 246)).alloc (by simp) (J (bk n) 4)).drew;have hfw:∀f,Fence.wide.fn f=True:=λ_=>rfl;clear G D K E HY H0 HA S ZP;gi_upto_region 0 with fail;gi_cut [3] from 4 (λs3 wx=>∃L,s3=.pointer (T (N L 0 Z))/\Hid (∃ZQ,LSt i wx (Q (U W)) b off n cap L ZQ l (λ_=>ZA))/\Hid (Below (Q (U W)) W wx));case first =>
  have hsf:=λ(w:M) (a:Addr) (m:Mode)=>run_store Pg w a (.func (.yield l) #[] #[]) m rfl;gi_region_with fail;all_goals
   gi_wp2_with fail;gi_meet;first
    |exact⟨Q (U W)+1,rfl,⟨Q (U W),zR j⟩,D1⟩
    |exact⟨Q (U W),rfl,⟨Q (U W)+1,zT j⟩,X⟩
 case rest =>
 obtain⟨L,rfl,HS,ZN⟩:=hcut;have hB1:=(ZN.cell (p:=(N t 0 Z)) aq).trans hB;have HC:Hid (CallsIn Fence.wide (nn - 1) Pg 172 #[.pointer (T (N L 0 Z)),.int I ((n:Int) - 1),.int I 0] wc λe s=>∃r:Bool,e=ZD (.bool r)/\Hid ((∃g,g=aE f n/\ZO g s)∨(∃pre,pre <+: aE f n/\P pre s))):=by obtain⟨ZQ,ZM⟩:=HS.out;exact ZS L ZQ wc ZM ZN
 clear ZS HS ZI ZN j D1 X hB;gi_wp2_with ((try refine⟨λh=>(by cases h),?_⟩);gi_at_call 172;refine HC.mono ?_;rintro e W3 ⟨r,rfl,H3⟩);go_end0;exact⟨⟨_,rfl⟩,H3⟩
theorem mu (g:M)(b off n cap i nn:Nat)(f:Nat->aj)(w:M)(o:fm f n)(hn1:1<=n)(hn:(n:Int)<=400)(q:RowDeed g b off n f)(hlk:∀p,p<n->(f p).l<=200)(j:Below (Q (U g)) g w)(l:z w (N i 0 Z)=T (Y (T (N b off Z)) n cap))(m:i<Q (U w)):zq Fence.wide nn Pg 171 #[.pointer (T (N i 0 Z))] (λx:Nat × Nat=>#[Value.int I (x.1:Int),Value.int I (x.2:Int)]) (λx=>x.1<n) (Q (U g)) (λr=>r=aE f n) (λpre=>pre <+: aE f n) (aE f n).length w :=
 (rO (ZL:=46) ⟨by decide,by decide⟩ g b off n cap i nn f w o hn1 hn q hlk j l m).plain λpre x h=>⟨h.1,by have:=h.2.length_le;simp at this;omega⟩
attribute [local go_sem] Oper.semAt_some
theorem og (h:bC i pre=-1):bC i (pre++[x])=if x.1=i+pre.length then -1 else ((i+pre.length:Nat):Int):=by
 induction pre generalizing i with
 |nil=>simp[bC]
 |cons y b f =>
  simp only[bC,J8] at h ⊢;split at h
  ·rename_i e;rw[nL e,f h];simp only[BG];have:i+1+b.length=i+(b.length+1):=by omega
   rw[this]
  {omega}
theorem rP{b:List (Nat × Nat)}(g:pre <+: b)(h:bC i pre≠-1):bC i b=bC i pre:=by
 induction pre generalizing i b with
 |nil=>exact absurd rfl h
 |cons y ys f =>
  obtain⟨t,rfl⟩:=g;simp only[bC,J8] at h ⊢;split;{rename_i e;rw[nL e] at h;exact f (TI _ _) h};{rfl}
theorem tZ (h:a8 f pre=-1):a8 f (pre++[x])=if (f x.1).H=3/\60<=x.2 then (x.1:Int) else -1:=by
 induction pre with
 |nil=>simp[a8]
 |cons y ys b =>
  simp only[a8,J8] at h ⊢;split at h;{omega};{rename_i e;rw[eT e,b h]}
theorem qP{b:List (Nat × Nat)}(i:pre <+: b)(h:a8 f pre≠-1):a8 f b=a8 f pre:=by
 induction pre generalizing b with
 |nil=>exact absurd rfl h
 |cons y ys g =>
  obtain⟨t,rfl⟩:=i;simp only[a8,J8] at h ⊢;split;{rfl};{rename_i e;rw[eT e] at h;exact g (TI _ _) h}
structure Fp (W:M)(h:Nat)(v:ZB):Prop where
 size:Q (U W)=h+4
 r:z W (N (h+1) 0 Z)=T (.int I 0)/\W.frozen? (N (h+1) 0 Z)=ZA
 t:z W (N (h+1+1) 0 Z)=T (.int I 0)/\W.frozen? (N (h+1+1) 0 Z)=ZA
 a:z W (N (h+1+1+1) 0 Z)=T v
 a0:z W (N h 0 Z)=T v
theorem wv (w:M)(v:ZB)(t u:ZH):Fp ((((A w (J #[v] t)).alloc (J #[.int I 0] u)).alloc (J #[.int I 0] u)).alloc (J #[v] t)) (Q (U w)) v:=by
 have b:(A w (J #[v] t)).heap.size=Q (U w)+1:=by simp
 have f:((A w (J #[v] t)).alloc (J #[.int I 0] u)).heap.size=Q (U w)+1+1:=by simp
 have g:(((A w (J #[v] t)).alloc (J #[.int I 0] u)).alloc (J #[.int I 0] u)).heap.size=Q (U w)+1+1+1:=by simp
 have j:Below (Q (U w)+1) (A w (J #[v] t)) ((((A w (J #[v] t)).alloc (J #[.int I 0] u)).alloc (J #[.int I 0] u)).alloc (J #[v] t)):=((br.alloc (by omega) _).alloc (by omega) _).alloc (by omega) _;have h:Below (Q (U w)+1+1) ((A w (J #[v] t)).alloc (J #[.int I 0] u)) ((((A w (J #[v] t)).alloc (J #[.int I 0] u)).alloc (J #[.int I 0] u)).alloc (J #[v] t)):=(br.alloc (by omega) _).alloc (by omega) _;have i:Below (Q (U w)+1+1+1) (((A w (J #[v] t)).alloc (J #[.int I 0] u)).alloc (J #[.int I 0] u)) ((((A w (J #[v] t)).alloc (J #[.int I 0] u)).alloc (J #[.int I 0] u)).alloc (J #[v] t)):=br.alloc (by omega) _;refine⟨by simp,⟨?_,?_⟩,⟨?_,?_⟩,?_,(j.cell (p:=(N (Q (U w)) 0 Z)) (AD _)).trans (by simp)⟩;{refine(h.cell (p:=(N (Q (U w)+1) 0 Z)) (AD _)).trans ?_;rw[<-b];clear j h i b f g;generalize A w (J #[v] t)=W;simp};{refine(h.frozen (p:=(N (Q (U w)+1) 0 Z)) (AD _)).trans ?_;rw[<-b];clear j h i b f g;generalize A w (J #[v] t)=W;simp};{refine(i.cell (p:=(N (Q (U w)+1+1) 0 Z)) (AD _)).trans ?_;rw[<-f];clear j h i b f g;generalize (A w (J #[v] t)).alloc (J #[.int I 0] u)=W;simp};{refine(i.frozen (p:=(N (Q (U w)+1+1) 0 Z)) (AD _)).trans ?_;rw[<-f];clear j h i b f g;generalize (A w (J #[v] t)).alloc (J #[.int I 0] u)=W;simp};{rw[<-g];clear j h i b f g;generalize ((A w (J #[v] t)).alloc (J #[.int I 0] u)).alloc (J #[.int I 0] u)=W;simp}
theorem qQ (b off n cap:Nat)(f:Nat->aj)(w:M)(ZI:fm f n)(hn1:1<=n)(hn:(n:Int)<=400)(H:RowDeed w b off n f)(hlk:∀p,p<n->(f p).l<=200)(hlen:(aE f n).length<=400):Calls Pg 150 #[.agg #[Y (T (N b off Z)) n cap]] w λe ZJ=>e=ZD (.int I (bC 0 (aE f n)))/\Below (Q (U w)) w ZJ:=by
 refine(SN (n:=3)).1 ?_;have HF:=ae H;have HA:=ae ZI;have V:=ae hlk;clear H ZI hlk;have O:=((((BS w).alloc ly (J #[Y (T (N b off Z)) n cap] 37)).alloc (by simp) (J #[.int I 0] 3)).alloc (by simp;omega) (J #[.int I 0] 3)).alloc (by simp;omega) (J #[Y (T (N b off Z)) n cap] 37);have ZN:=ae O;clear O;have G:=ae (wv w (Y (T (N b off Z)) n cap) 37 3);refine callsIn_of_wp_marks func150 rfl trivial ?_ rfl;simp only[ntmps150,LG,BG,JJ,Nat.reduceAdd,Nat.reduceSub,LV,LX,NA,MF,JW,J8];gi_wp2_with (refine⟨trivial,?_⟩;gi_at_call 117;refine(oe _ _ _).mono ?_;rintro e ZJ ⟨rfl,rfl⟩);generalize World.alloc (World.alloc (World.alloc (World.alloc w _) _) _) _=W at ZN G ⊢;have hsz:=G.size;obtain⟨ZQ,ZP⟩:=G.r;obtain⟨ZO,L⟩:=G.t;refine iG (F:=Fence.wide) rfl (by omega) (gf:=171) (lb:=#[.pointer (T (N (Q (U w)+1+1+1) 0 Z))]) rfl trivial (enters_of func171 (by kernel_rfl) rfl) (base:=Q (U w)) (by omega)
  (mu w b off n cap (Q (U w)+1+1+1) (3 - 1) f W HA hn1 hn HF V ZN G.a (by omega)) br (λ_=>rfl)
  (λpre i=>z i (N (Q (U w)+1+1) 0 Z)=T (.int I (pre.length:Int))/\i.frozen? (N (Q (U w)+1+1) 0 Z)=ZA/\z i (N (Q (U w)+1) 0 Z)=T (.int I 0)/\i.frozen? (N (Q (U w)+1) 0 Z)=ZA/\Hid (bC 0 pre=-1)/\Hid (Below (Q (U w)) w i))
  (λc pre i=>c=.ret/\z i (N (Q (U w)+1) 0 Z)=T (.int I (bC 0 pre))/\Hid (bC 0 pre≠-1)/\Hid (Below (Q (U w)) w i))
  (λs ZR B h j=>⟨(j.cell (p:=(N (Q (U w)+1+1) 0 Z)) (by show (Q (U w))+1+1<Q (U W);omega)).trans h.1,(j.frozen (p:=(N (Q (U w)+1+1) 0 Z)) (by show (Q (U w))+1+1<Q (U W);omega)).trans h.2.1,(j.cell (p:=(N (Q (U w)+1) 0 Z)) (by show (Q (U w))+1<Q (U W);omega)).trans h.2.2.1,(j.frozen (p:=(N (Q (U w)+1) 0 Z)) (by show (Q (U w))+1<Q (U W);omega)).trans h.2.2.2.1,h.2.2.2.2.1,h.2.2.2.2.2.trans (j.mono (by omega))⟩)
  (λc s ZR B h j=>⟨h.1,(j.cell (p:=(N (Q (U w)+1) 0 Z)) (by show (Q (U w))+1<Q (U W);omega)).trans h.2.1,h.2.2.1,h.2.2.2.trans (j.mono (by omega))⟩)
  ⟨ZO,L,ZQ,ZP,rfl,ZN⟩
  (λx=>{ tmps:=#[.agg #[Y (T (N b off Z)) n cap],.pointer (T (N (Q (U w)) 0 Z)),.pointer (T (N (Q (U w)+1) 0 Z)),.pointer (T (N (Q (U w)+1+1) 0 Z)),.int I (x.1:Int),.agg #[Y (T (N b off Z)) n cap],.func (.func 171) #[] #[.pointer (T (N (Q (U w)+1+1+1) 0 Z))],.int I (x.1:Int),.int I (x.2:Int),undef,undef,undef,undef,undef,undef],defers:=[] }) ?assign ?body ?done ?stop
 case assign =>intro l x W K y;gi_wp2;exact y
 case body =>
  rintro l pre x g _ ⟨hc,H,o,ZM,q,u⟩ hlt hz;clear ZQ ZP ZO L;have hpl:(pre.length:Int)<=1048576:=by omega
  by_cases hx:(x.1:Int)=(pre.length:Int)
  ·have E:bC 0 (pre++[x])=-1:=by rw[og q.out,nL (by omega)]
   have m:=ae E;clear E;have S:=ae (Upd.setCell (P:=λk=>Q (U w)<=k/\k<Q (U W)) g (p:=(N (Q (U w)+1+1) 0 Z)) ⟨by show _<=_+1+1;omega,by show _+1+1<_;omega⟩ (.int I ((pre.length:Int)+1)));have C:=ae (u.setCell (p:=(N (Q (U w)+1+1) 0 Z)) (by show _<=_+1+1;omega) (.int I ((pre.length:Int)+1)));have c1:(g.setCell (N (Q (U w)+1+1) 0 Z) (.int I ((pre.length:Int)+1))).cell? (N (Q (U w)+1+1) 0 Z)=T (.int I ((pre++[x]).length:Int)):=by rw[DN _ _ _ (by rw[hc];rfl)];simp
   have c2:(g.setCell (N (Q (U w)+1+1) 0 Z) (.int I ((pre.length:Int)+1))).cell? (N (Q (U w)+1) 0 Z)=T (.int I 0):=by rw[sq _ _ _ _ (by simp)];exact o
   have ZS:=ae c1;have C2:=ae c2;clear c1 c2;gi_wp2;exact⟨S,ZS,by simpa using H,C2,by simpa using ZM,m,C⟩
  ·have E:bC 0 (pre++[x])=(pre.length:Int):=by rw[og q.out,eT (by omega)];simp
   have m:=ae E;clear E;have S:=ae (Upd.setCell (P:=λk=>Q (U w)<=k/\k<Q (U W)) g (p:=(N (Q (U w)+1) 0 Z)) ⟨by show _<=_+1;omega,by show _+1<_;omega⟩ (.int I (pre.length:Int)));have C:=ae (u.setCell (p:=(N (Q (U w)+1) 0 Z)) (by show _<=_+1;omega) (.int I (pre.length:Int)));have ZS:=ae (DN g (N (Q (U w)+1) 0 Z) (.int I (pre.length:Int)) (by rw[o];rfl));gi_wp2;exact⟨S,rfl,by rw[m.out];exact ZS,by show _≠_;rw[m.out];omega,C⟩
 case done =>rintro ZK ys g R rfl ⟨_,_,o,ZM,q,u⟩ y;have X:=ae ((KeepsOthers.setCell g (N (Q (U w)+1) 0 Z) (.int I (-1))).same ZK _ y rfl);have C:=ae (u.setCell (p:=(N (Q (U w)+1) 0 Z)) (by show _<=_+1;omega) (.int I (-1)));have ZS:=ae (DN g (N (Q (U w)+1) 0 Z) (.int I (-1)) (by rw[o];rfl));gi_wp2;refine⟨by simp,.inl ⟨_,_,rfl,run_takeDeferred X,?_⟩⟩;have D:=dh (n:=Q (U W)) (g.setCell (N (Q (U w)+1) 0 Z) (.int I (-1))) R (E7.1 X).1 (.deferred Z);have c:=(D.cell (p:=(N (Q (U w)+1) 0 Z)) (by show (Q (U w))+1<Q (U W);omega)).trans ZS;exact⟨.int I (-1),by simp[results,results150,go_sem,c],by rw[q.out],C.trans (D.mono (by omega))⟩
 case stop =>rintro ZK c pre g R ZL ⟨rfl,o,q,u⟩ y;gi_wp2;refine⟨by simp,.inl ⟨_,_,rfl,run_takeDeferred y,?_⟩⟩;have D:=dh (n:=Q (U W)) g R (E7.1 y).1 (.deferred Z);have c:=(D.cell (p:=(N (Q (U w)+1) 0 Z)) (by show (Q (U w))+1<Q (U W);omega)).trans o;exact⟨.int I (bC 0 pre),by simp[results,results150,go_sem,c],by rw[rP ZL q.out],u.trans (D.mono (by omega))⟩
structure Fq (W:M)(h:Nat)(v:ZB):Prop where
 size:Q (U W)=h+3
 r:z W (N (h+1) 0 Z)=T (.int I 0)/\W.frozen? (N (h+1) 0 Z)=ZA
 a:z W (N (h+1+1) 0 Z)=T v
 a0:z W (N h 0 Z)=T v
theorem ww (w:M)(v:ZB)(t u:ZH):Fq (((A w (J #[v] t)).alloc (J #[.int I 0] u)).alloc (J #[v] t)) (Q (U w)) v:=by
 have b:(A w (J #[v] t)).heap.size=Q (U w)+1:=by simp
 have f:((A w (J #[v] t)).alloc (J #[.int I 0] u)).heap.size=Q (U w)+1+1:=by simp
 have h:Below (Q (U w)+1) (A w (J #[v] t)) (((A w (J #[v] t)).alloc (J #[.int I 0] u)).alloc (J #[v] t)):=(br.alloc (by omega) _).alloc (by omega) _;have g:Below (Q (U w)+1+1) ((A w (J #[v] t)).alloc (J #[.int I 0] u)) (((A w (J #[v] t)).alloc (J #[.int I 0] u)).alloc (J #[v] t)):=br.alloc (by omega) _;refine⟨by simp,⟨?_,?_⟩,?_,(h.cell (p:=(N (Q (U w)) 0 Z)) (AD _)).trans (by simp)⟩;{refine(g.cell (p:=(N (Q (U w)+1) 0 Z)) (AD _)).trans ?_;rw[<-b];clear h g b f;generalize A w (J #[v] t)=W;simp};{refine(g.frozen (p:=(N (Q (U w)+1) 0 Z)) (AD _)).trans ?_;rw[<-b];clear h g b f;generalize A w (J #[v] t)=W;simp};{rw[<-f];clear h g b f;generalize (A w (J #[v] t)).alloc (J #[.int I 0] u)=W;simp}
theorem t6 (b off n cap:Nat)(f:Nat->aj)(w:M)(ZJ:fm f n)(hn1:1<=n)(hn:(n:Int)<=400)(S:RowDeed w b off n f)(hlk:∀p,p<n->(f p).l<=200):Calls Pg 151 #[.agg #[Y (T (N b off Z)) n cap]] w λe w'=>e=ZD (.int I (a8 f (aE f n)))/\Below (Q (U w)) w w':=by
 refine(SN (n:=3)).1 ?_;have HF:=ae S;have HA:=ae ZJ;have V:=ae hlk;clear S ZJ hlk;obtain⟨W,C⟩:∃W:M,((A w (J #[Y (T (N b off Z)) n cap] 37)).alloc (J #[.int I 0] 3)).alloc (J #[Y (T (N b off Z)) n cap] 37)=W:=⟨_,rfl⟩
 obtain⟨t,-,-,-,-⟩:=nb3 C;replace t:=t.out;have H:=ae C;clear C;have ZN:=ae t;clear t;have E:=ae (ww w (Y (T (N b off Z)) n cap) 37 3);refine callsIn_of_wp_marks func151 rfl trivial ?_ rfl;simp only[ntmps151,LG,BG,JJ,Nat.reduceAdd,Nat.reduceSub,LV,LX,NA,MF,JW,J8];gi_wp2_with (refine⟨trivial,?_⟩;gi_at_call 117;refine(oe _ _ _).mono ?_;rintro e w' ⟨rfl,rfl⟩);rw[H.out] at E ⊢;clear H;have hsz:=E.size;obtain⟨ZP,G⟩:=E.r;have ZI:=E.a0;refine iG (F:=Fence.wide) rfl (by omega) (gf:=171) (lb:=#[.pointer (T (N (Q (U w)+1+1) 0 Z))]) rfl trivial (enters_of func171 (by kernel_rfl) rfl) (base:=Q (U w)) (by omega)
  (mu w b off n cap (Q (U w)+1+1) (3 - 1) f W HA hn1 hn HF V ZN E.a (by omega)) br (λ_=>rfl)
  (λpre o=>z o (N (Q (U w)) 0 Z)=T (Y (T (N b off Z)) n cap)/\z o (N (Q (U w)+1) 0 Z)=T (.int I 0)/\o.frozen? (N (Q (U w)+1) 0 Z)=ZA/\Hid (a8 f pre=-1)/\Hid (Below (Q (U w)) w o))
  (λc pre o=>c=.ret/\z o (N (Q (U w)+1) 0 Z)=T (.int I (a8 f pre))/\Hid (a8 f pre≠-1)/\Hid (Below (Q (U w)) w o))
  (λs ZR B h q=>⟨(q.cell (p:=(N (Q (U w)) 0 Z)) (by show (Q (U w))<Q (U W);omega)).trans h.1,(q.cell (p:=(N (Q (U w)+1) 0 Z)) (by show (Q (U w))+1<Q (U W);omega)).trans h.2.1,(q.frozen (p:=(N (Q (U w)+1) 0 Z)) (by show (Q (U w))+1<Q (U W);omega)).trans h.2.2.1,h.2.2.2.1,h.2.2.2.2.trans (q.mono (by omega))⟩)
  (λc s ZR B h q=>⟨h.1,(q.cell (p:=(N (Q (U w)+1) 0 Z)) (by show (Q (U w))+1<Q (U W);omega)).trans h.2.1,h.2.2.1,h.2.2.2.trans (q.mono (by omega))⟩)
  ⟨ZI,ZP,G,rfl,ZN⟩
  (λx=>{ tmps:=#[.agg #[Y (T (N b off Z)) n cap],.pointer (T (N (Q (U w)) 0 Z)),.pointer (T (N (Q (U w)+1) 0 Z)),.int I (x.1:Int),.int I (x.2:Int),.agg #[Y (T (N b off Z)) n cap],.func (.func 171) #[] #[.pointer (T (N (Q (U w)+1+1) 0 Z))],.int I (x.1:Int),.int I (x.2:Int),undef,undef,undef,undef,undef,undef,undef,undef,undef,undef,undef,undef],defers:=[] }) ?assign ?body ?done ?stop
 case assign =>intro l x W K u;gi_wp2;exact u
 case body =>
  rintro l pre x j ZL ⟨ZK,m,ZS,y,i⟩ hlt hz;clear ZP G ZI;obtain⟨_,p1,_⟩:=(HF.aa i ly).2 x.1 ZL;have hx0:(0:Int)<=(x.1:Int):=by omega
  have hxn:(x.1:Int)<n:=by omega
  have ZM:=ae (tZ (x:=x) y);have U1:=ae (Upd.setCell (P:=λk=>Q (U w)<=k/\k<Q (U W)) j (p:=(N (Q (U w)+1) 0 Z)) ⟨by show _<=_+1;omega,by show _+1<_;omega⟩ (.int I (x.1:Int)));have L:=ae (i.setCell (p:=(N (Q (U w)+1) 0 Z)) (by show _<=_+1;omega) (.int I (x.1:Int)));have ZO:=ae (DN j (N (Q (U w)+1) 0 Z) (.int I (x.1:Int)) (by rw[m];rfl));cases h3:((f x.1).H == 3) with
  |false =>
   have g:Hid (a8 f (pre++[x])=-1):=by show _=_;rw[ZM.out,eT (by intro h;rw[h.1] at h3;simp at h3)]
   gi_wp2;exact⟨Upd.refl _ _,ZK,m,ZS,g,i⟩
  |true =>
   by_cases h6:(60:Int)<=(x.2:Int)
   ·have g:Hid (a8 f (pre++[x])=(x.1:Int)):=by show _=_;rw[ZM.out,nL ⟨by simpa using h3,by omega⟩]
    gi_wp2;exact⟨U1,rfl,by rw[g.out];exact ZO,by show _≠_;rw[g.out];omega,L⟩
   ·have g:Hid (a8 f (pre++[x])=-1):=by show _=_;rw[ZM.out,eT (by intro h;omega)]
    gi_wp2;exact⟨Upd.refl _ _,ZK,m,ZS,g,i⟩
 case done =>rintro R ys j ZQ rfl ⟨_,m,ZS,y,i⟩ u;have X:=ae ((KeepsOthers.setCell j (N (Q (U w)+1) 0 Z) (.int I (-1))).same R _ u rfl);have L:=ae (i.setCell (p:=(N (Q (U w)+1) 0 Z)) (by show _<=_+1;omega) (.int I (-1)));have ZO:=ae (DN j (N (Q (U w)+1) 0 Z) (.int I (-1)) (by rw[m];rfl));gi_wp2;refine⟨by simp,.inl ⟨_,_,rfl,run_takeDeferred X,?_⟩⟩;have D:=dh (n:=Q (U W)) (j.setCell (N (Q (U w)+1) 0 Z) (.int I (-1))) ZQ (E7.1 X).1 (.deferred Z);have c:=(D.cell (p:=(N (Q (U w)+1) 0 Z)) (by show (Q (U w))+1<Q (U W);omega)).trans ZO;exact⟨.int I (-1),by simp[results,results151,go_sem,c],by rw[y.out],L.trans (D.mono (by omega))⟩
 case stop =>rintro R c pre j ZQ O ⟨rfl,m,y,i⟩ u;gi_wp2;refine⟨by simp,.inl ⟨_,_,rfl,run_takeDeferred u,?_⟩⟩;have D:=dh (n:=Q (U W)) j ZQ (E7.1 u).1 (.deferred Z);have c:=(D.cell (p:=(N (Q (U w)+1) 0 Z)) (by show (Q (U w))+1<Q (U W);omega)).trans m;exact⟨.int I (a8 f pre),by simp[results,results151,go_sem,c],by rw[qP O y.out],i.trans (D.mono (by omega))⟩
theorem oh (g:Nat->Bool)(n:Nat):aK g n=-1∨0<=aK g n:=by
 induction n with
 |zero=>exact .inl rfl
 |succ k b =>
  rw[aK];split;{split;{exact .inl rfl};{exact .inr (by omega)}};{exact b}
theorem zU (i:Nat)(b:List (Nat × Nat)):bC i b=-1∨0<=bC i b:=by
 induction b generalizing i with
 |nil=>exact .inl rfl
 |cons x b f =>
  rw[bC];split;{exact f _};{exact .inr (by omega)}
theorem pV (f:Nat->aj)(b:List (Nat × Nat)):a8 f b=-1∨0<=a8 f b:=by
 induction b with
 |nil=>exact .inl rfl
 |cons x b g =>
  rw[a8];split;{exact .inr (by omega)};{exact g}
theorem mP (h:aK (bc f) n=-1):∀p,p<n->(f p).l<=200:=by
 intro p b;have h1:=dL h p b;simp only[bc,p6,kindOk] at h1;obtain⟨_,h2⟩:=h1;split at h2;{simp[aN] at h2;omega};{split at h2;{simp[aN] at h2;omega};{split at h2;{simp only[bV,p6,xT] at h2;omega};{cases h2}}}
theorem zV (h:aK (bc f) n=-1):∀p,p<n->(f p).e.size<=maxLen:=by intro p b;have h1:=dL h p b;simp only[bc,aA,p6,xT] at h1;unfold maxLen;omega
theorem jo (b:fm f n)(hn:1<=n):(aE f n).length<=n:=by
 have h:=(uL b n (n - 1) 0 (λ_=>ZA) (by omega) (by omega) rfl).num;have h2:=Er (lst f n (n - 1) 0 (λ_=>ZA)).1 n;have g:∀k,cnt (λ_=>ZA) k=0:=by
  intro k;induction k with
  |zero=>rfl
  |succ j i=>rw[cnt,i];rfl
 rw[g] at h;unfold aE;omega
structure Fs (w:M)(b:Nat)(v0 v1 v2 v3:ZB):Prop where
 lt:b<Q (U w)
 c0:z w (N b 0 Z)=T v0
 c1:z w (N b 1 Z)=T v1
 c2:z w (N b 2 Z)=T v2
 c3:z w (N b 3 Z)=T v3
theorem CR (w:M)(f h g b:ZB)(t:ZH):Fs (A w (J #[f,h,g,b] t)) (Q (U w)) f h g b:=⟨by simp,by simp,by simp,by simp,by simp⟩
theorem t8 (a:Option Addr)(n cap:Nat)(f:Nat->aj)(w:M)(hn:(n:Int)<=1048576)(ZL:SlDeed w a n f)(ZQ:(n:Int)<=cap)(D:∀i,i<n->dQ (f i))(ZJ:Tab w):Calls Pg 100 #[.agg #[Y a n cap]] w λe w'=>e=ZD (.tuple #[.int I (dH f n).1,.int I (dH f n).2])/\Below (Q (U w)) w w':=by
 have V:=ae ZL;have HM:=ae D;have ZI:=ae ZJ;clear ZL D ZJ;have G:=ae ((BS w).alloc ly (J #[Y a n cap] 37));have R:(A w (J #[Y a n cap] 37)).cell? (N (Q (U w)) 0 Z)=T (Y a n cap):=by simp
 obtain⟨c1,c2,o⟩:∃c1 c2,dH f n=(c1,c2):=⟨_,_,rfl⟩
 rw[o];have y:=ae o;clear o;by_cases S:(n:Int)=0
 ·have g:c1=1/\c2=0:=by have:=y.out;unfold dH at this;rw[nL (.inl (by omega))] at this;simp only[JL] at this;omega
  clear y;obtain⟨g,q⟩:=g;subst g q;obtain rfl:n=0:=by omega
  go_enter func100,ntmps100;go_wp2;go_ret2;exact⟨rfl,G⟩
 by_cases h4:(400:Int)<(n:Int)
 ·have g:c1=1/\c2=0:=by have:=y.out;unfold dH at this;rw[nL (.inr (by omega))] at this;simp only[JL] at this;omega
  clear y;obtain⟨g,q⟩:=g;subst g q;have ZN:((n:Int) == 0)=ZA:=by simpa using S
  go_enter func100,ntmps100;go_wp2;go_ret2;exact⟨rfl,G⟩
 have x:Hid ((if aK (bc f) n≠-1 then ((2:Int),aK (bc f) n) else if aK (λp=>aU f p p) n≠-1 then (3,aK (λp=>aU f p p) n) else if bC 0 (aE f n)≠-1 then (4,bC 0 (aE f n)) else if a8 f (aE f n)≠-1 then (5,a8 f (aE f n)) else (0,0))=(c1,c2)):=by have:=y.out;unfold dH at this;rw[eT (by omega)] at this;exact this
 clear y;obtain⟨b,off,rfl,E⟩:=V.resolve_left (by omega);have H:=ae E;have ZN:((n:Int) == 0)=ZA:=by simpa using S
 clear V E;have t:(n:Int)<=400:=by omega
 have ZM:=ae (G.alloc (by simp) (J #[.func (.func 148) #[] #[],.func (.func 149) #[] #[],.func (.func 150) #[] #[],.func (.func 151) #[] #[]] 221));go_enter func100,ntmps100;go_wp2;have K:(A w (J #[Y (T (N b off Z)) n cap] 37)).heap.size=Q (U w)+1:=by simp
 have r:=ae (CR (A w (J #[Y (T (N b off Z)) n cap] 37)) (.func (.func 148) #[] #[]) (.func (.func 149) #[] #[]) (.func (.func 150) #[] #[]) (.func (.func 151) #[] #[]) 221);rw[K] at r;have ZK:=(((cM (Q (U w)+1) (A w (J #[Y (T (N b off Z)) n cap] 37))).alloc (by omega) (J #[.func (.func 148) #[] #[],.func (.func 149) #[] #[],.func (.func 150) #[] #[],.func (.func 151) #[] #[]] 221)).cell (p:=(N (Q (U w)) 0 Z)) (AD _)).trans R;clear K R G;generalize World.alloc (World.alloc w _) _=W at ZM r ZK ⊢;have u:Q (U w)+1<Q (U W):=r.lt;go_loopw [21] (λi wr=>∃k:Nat,k<=4/\i=.int I k/\Hid (1<=k->aK (bc f) n=-1)/\Hid (2<=k->aK (λp=>aU f p p) n=-1)/\Hid (3<=k->bC 0 (aE f n)=-1)/\Hid (4<=k->a8 f (aE f n)=-1)/\Hid (Below (Q (U W)) W wr)) (λi _=>4 - (intOf i).toNat);case atStart=>exact⟨0,by omega,rfl,λh=>by omega,λh=>by omega,λh=>by omega,λh=>by omega,cM _ _⟩
 case round =>
  obtain⟨k,hk,rfl,j,ZP,L,H4,l⟩:=hrel;have k2:=(l.cell (p:=(N (Q (U w)) 0 Z)) (by show (Q (U w))<_;omega)).trans ZK;have m:=ae (ZM.trans (l.mono ZM.size));by_cases hlt:k<4
  ·rcases(show(True/\k=0)∨(True/\k=1)∨(True/\k=2)∨(True/\k=3) by rcases(show k=0∨k=1∨k=2∨k=3 by omega) with h|h|h|h<;>simp[h]) with ⟨M0,rfl⟩|⟨M1,rfl⟩|⟨M2,rfl⟩|⟨M3,rfl⟩
   all_goals
    first
     |(guard_hyp M0;have P:=(l.cell (p:=(N (Q (U w)+1) 0 Z)) u).trans r.c0;have ZR:=ae (qG b off n cap f _ t (H.aa m ly) ZQ HM (ZI.aa m ZI.1));have ZS:=ae (oh _ _:aK (bc f) n=-1∨0<=aK (bc f) n);obtain⟨X,hX⟩:∃X,X=aK (bc f) n:=⟨_,rfl⟩)
     |(guard_hyp M1;have P:=(l.cell (p:=(N (Q (U w)+1) 1 Z)) u).trans r.c1;have ZR:=ae (qO b off n cap f _ t (H.aa m ly) (zV (j (by omega))));have ZS:=ae (oh _ _:aK (λp=>aU f p p) n=-1∨0<=aK (λp=>aU f p p) n);obtain⟨X,hX⟩:∃X,X=aK (λp=>aU f p p) n:=⟨_,rfl⟩)
     |(guard_hyp M2;have P:=(l.cell (p:=(N (Q (U w)+1) 2 Z)) u).trans r.c2;have ZR:=ae (qQ b off n cap f _ (iI (j (by omega))) (by omega) t (H.aa m ly) (mP (j (by omega))) (by have:=jo (iI (j (by omega))) (n:=n) (by omega);omega));have ZS:=ae (zU _ _:bC 0 (aE f n)=-1∨0<=bC 0 (aE f n));obtain⟨X,hX⟩:∃X,X=bC 0 (aE f n):=⟨_,rfl⟩)
     |(guard_hyp M3;have P:=(l.cell (p:=(N (Q (U w)+1) 3 Z)) u).trans r.c3;have ZR:=ae (t6 b off n cap f _ (iI (j (by omega))) (by omega) t (H.aa m ly) (mP (j (by omega))));have ZS:=ae (pV _ _:a8 f (aE f n)=-1∨0<=a8 f (aE f n));obtain⟨X,hX⟩:∃X,X=a8 f (aE f n):=⟨_,rfl⟩)
    rw[<-hX] at ZR ZS;have C:=ae hX;clear hX;go_wp2_with fail;refine ZR.mono ?_;rintro e w2 ⟨rfl,O⟩;have G1:=ae (m.trans (O.mono m.size));have s:=ae (l.trans (O.mono l.size));clear O ZR;by_cases B:X=-1
    ·have ZO:=ae (C.symm.trans B)
     have hd:decide (0<=X)=ZA:=by rw[B];rfl
     clear B;go_wp2;first
      |(guard_hyp M0;exact⟨⟨0+1,by omega,by go_num,λ_=>ZO,λh=>by omega,λh=>by omega,λh=>by omega,s⟩,by simp[intOf]⟩)
      |(guard_hyp M1;exact⟨⟨1+1,by omega,by go_num,λ_=>j (by omega),λ_=>ZO,λh=>by omega,λh=>by omega,s⟩,by simp[intOf]⟩)
      |(guard_hyp M2;exact⟨⟨2+1,by omega,by go_num,λ_=>j (by omega),λ_=>ZP (by omega),λ_=>ZO,λh=>by omega,s⟩,by simp[intOf]⟩)
      |(guard_hyp M3;exact⟨⟨3+1,by omega,by go_num,λ_=>j (by omega),λ_=>ZP (by omega),λ_=>L (by omega),λ_=>ZO,s⟩,by simp[intOf]⟩)
    ·have g:=x.out
     (try rw[eT (by rw[j.out (by omega)];simp)] at g)
     (try rw[eT (by rw[ZP.out (by omega)];simp)] at g)
     (try rw[eT (by rw[L.out (by omega)];simp)] at g)
     rw[nL (by rw[<-C.out];exact B),<-C.out] at g;simp only[JL] at g;have hge:0<=X:=ZS.resolve_left B;obtain⟨g,q⟩:=g;clear x B ZS;subst g q;go_wp2;go_ret2;exact⟨rfl,G1⟩
  ·obtain rfl:k=4:=by omega
   have g:c1=0/\c2=0:=by have:=x.out;rw[eT (by rw[j.out (by omega)];simp),eT (by rw[ZP.out (by omega)];simp),eT (by rw[L.out (by omega)];simp),eT (by rw[H4.out (by omega)];simp)] at this;simp only[JL] at this;omega
   obtain⟨g,q⟩:=g;clear x;subst g q;go_wp2;go_ret2;exact⟨rfl,m⟩
