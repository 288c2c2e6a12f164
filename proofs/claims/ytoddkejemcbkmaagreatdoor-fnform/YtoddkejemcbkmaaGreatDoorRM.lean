import Derived.Test.YtoddkejemcbkmaaGreatDoorSC
import Derived.RangeFuncNested
import Derived.RangeFuncBound
import Derived.RangeFuncCalls
import Derived.RangeFuncLeaves
import Derived.Shelf.Abstract
import Derived.Shelf.RegionOpen
import Derived.OwnWalkIn
import Derived.TacticsInMore
import Derived.LoopNIn
import Derived.LoopIn
import Derived.Sort.QuietIn
import Derived.Sort.BigQuietIn
import Derived.Sort.CutIn
import Derived.Test.YtoddkejemcbkmaaGreatDoorSE
import Derived.Maps.OwnSet
import Derived.Maps.Views
import Derived.StringKeys
set_option maxRecDepth 100000
set_option maxHeartbeats 4000000
set_option linter.unusedSimpArgs false
open Go renaming Addr.mk->Q,Value.slice->Z,Obj.cells->N,IntKind.i64->I,World->M,Value->ZC,TypeId->ZH,Ending.returned->ZF,World.heap->U,World.alloc->A,Proofs.Tryz.prog->Pg
open Option renaming none->Y,some->T
open Bool renaming false->ZA,true->ZG
open Array renaming size->J
namespace Go.Proofs.YtoddkejemcbkmaaGreatDoor.Vp
open Tryz RowKit
variable {n l b off cap n1 L ZQ i m:Nat}{W g:M}{f:Nat->Deed}{s:Nat->Bool}{ZL:ZH}{F:Fence}{P:Program}{R:Ending->M->Prop}{x:Nat × Nat}{c:List (Nat × Nat)}
theorem Ga{k:Nat}{D:DataW Unit}(b:Maps.IsMap D)(h:∀p,Maps.has D (.string (f p).e.data.toList)=!ba f p k)(d:DataW Unit):∀p,Maps.has (D.put (.string (f k).e.data.toList) d) (.string (f p).e.data.toList)=!ba f p (k+1):=by
 intro p;rw[ba,Bool.not_and,<-h p,Bool.not_not];by_cases e:(f p).e.data.toList=(f k).e.data.toList;{rw[e,Maps.has_put_same b (by simp[WideAt.IsKeyLit])];simp[GC,e]}
 ·rw[Maps.has_put_other (by simpa using e)];have:((f k).e.toList == (f p).e.toList)=ZA:=by simpa[GC] using λh=>e (by rw[h])
  rw[this];simp
theorem sK (b off n cap:Nat)(f:Nat->Deed)(w:M)(hn:(n:Int)<=400)(ZK:RowDeed w b off n f)(ZM:∀i,i<n->(f i).e.size<=maxLen):Calls Pg 87 #[.agg #[Z (T (Q b off Y)) n cap]] w λe X=>e=ZF (.int I (aM (λp=>ba f p p) n))/\Below (J (U w)) w X:=by
 have ZJ:=ae ZK;have V:=ae ZM;clear ZK ZM;have O:=ae (((q9 w).alloc ly (N #[Z (T (Q b off Y)) n cap] 25)).alloc (by simp) (.map #[] 0));have C:=ae (World.ownsMap_made (A w (N #[Z (T (Q b off Y)) n cap] 25)) Pg 9 (plainElem (H:=Unit) Pg 3));have hz:(A w (N #[Z (T (Q b off Y)) n cap] 25)).heap.size=J (U w)+1:=by simp
 rw[hz] at C;clear hz;obtain⟨r,ZP⟩:∃r,r=aM (λp=>ba f p p) n:=⟨_,rfl⟩
 rw[<-ZP];have R:=ae ZP;clear ZP;have ZL:=@run_makeMap Pg;go_enter func87,ntmps87;go_wp2;clear ZL;generalize World.alloc (World.alloc w _) _=W at O C ⊢;obtain⟨o,y⟩:∃o,o=J (U w)+1:=⟨_,rfl⟩
 rw[<-y] at C ⊢;have L:=ae y;clear y;go_loopw [12] (λi wr=>∃(k:Nat) (D:DataW Unit),k<=n/\i=.int I k/\Hid (∀j,j<k->ba f j j=ZG)/\Hid (wr.ownsMap Pg 9 (plainElem (H:=Unit) Pg 3) o k D)/\Hid (∀p,Maps.has D (.string (f p).e.data.toList)=!ba f p k)/\Hid (Below (J (U w)) w wr)) (λi _=>n - (intOf i).toNat);case atStart=>exact⟨0,_,by omega,rfl,λj S=>absurd S (NV _),C,λp=>rfl,O⟩
 case round =>
  obtain⟨k,D,hk,rfl,ZO,B,ZQ,l⟩:=hrel;by_cases s:k<n
  ·obtain⟨p0,p1,p2,p3,⟨a0,t,p4,ZI⟩,⟨a1,ZR,p5,q5⟩⟩:=(ZJ.aa l ly).2 k s;clear ZI q5;have x:=WideMaps.keyOf_string_mk (P:=Pg) (k:=9) IN (V k s);have h:=ae x;have E:=ae (ZQ k);clear x;cases hnew:ba f k k with
   |false =>
    have u:Maps.has D (.string (f k).e.data.toList)=ZG:=by rw[E.out,hnew];rfl
    have HHS:=ae u;obtain rfl:r=k:=by rw[R.out];exact fK s hnew ZO
    clear hnew;have G:=ae (l.alloc l.size (N #[.string (f k).e,.int I (f k).E,.int I (f k).B,.string (f k).h,Z a0 (f k).f t,Z a1 (f k).b ZR] 62));go_wp2_with (at_lookup;refine wpList_lookup_own_ok_int _ rfl _ _ 186 rfl 9 3 I (Maps.string_keyed IN) UX NM (PJ _) o k D rfl (B.alloc _) _ _ rfl h ?_;intro c q z;clear q z);go_ret;exact⟨rfl,G⟩
   |true =>
    have u:Maps.has D (.string (f k).e.data.toList)=ZA:=by rw[E.out,hnew];rfl
    have ZN:=ae hnew;clear hnew;have F:(Lit.int I (k:Int)).wf=ZG:=by simp only[Lit.wf,IntKind.min,IntKind.max,IntKind.signed,IntKind.bits,zA,z8,if_true];omega
    have K:=ae F;clear F
    go_wp2_with (first
     |(at_lookup;refine wpList_lookup_own_ok_int _ rfl _ _ 186 rfl 9 3 I (Maps.string_keyed IN) UX NM (PJ _) o k D rfl (B.alloc _) _ _ rfl h ?_;intro c q z;clear q z)
     |(at_mapUpdate;refine wpList_mapUpdate_own _ rfl _ _ _ 186 rfl 9 3 (Maps.string_keyed IN) UX _ o k D rfl (B.alloc _) (by unfold maxLen;omega) _ _ _ rfl rfl h _ [] (plainElem_int NM K) ?_;intro w1 m g;have M1:=ae m;have G:=ae (bg (l.alloc l.size (N #[.string (f k).e,.int I (f k).E,.int I (f k).B,.string (f k).h,Z a0 (f k).f t,Z a1 (f k).b ZR] 62)) g (by have:=l.size;simp;omega) (λj e=>by cases e;have:=L.out;omega));clear m g))
    exact⟨⟨k+1,_,by omega,by go_num,λj S=>by
     by_cases e:j=k;{subst e;exact ZN}
     ·exact ZO j (by omega),M1,Ga B.isMap ZQ _,G⟩,by simp[intOf];omega⟩
  ·have e:n=k:=by omega
   subst e;obtain rfl:r=-1:=by rw[R.out];exact fw ZO
   go_wp2;go_ret;exact⟨rfl,l⟩
open Go.Shelf Ca
attribute [local go_sem] QU
structure LSt (w0 W:M)(n1 b off n cap L ZQ l:Nat)(s:Nat->Bool):Prop where
 c0:W.cell? (Q L 0 Y)=T (Z (T (Q b off Y)) n cap)
 c1:W.cell? (Q L 1 Y)=T (Z (T (Q ZQ 0 Y)) n n)
 c2:W.cell? (Q L 2 Y)=T (.func (.yield l) #[] #[])
 row:∀q,q<n->W.cell? (Q ZQ q Y)=T (.bool (s q))/\W.frozen? (Q ZQ q Y)=ZA
 low:Below (J (U w0)) w0 W
 hL:n1<=L/\L<J (U W)
 hM:n1<=ZQ/\ZQ<J (U W)
 ne:L≠ZQ
 hb:J (U w0)<=n1
 tyM:OfTy W ZQ 4
 tyL:OfTy W L 217
theorem LSt.blocks{f:M}(h:LSt g W n1 b off n cap L ZQ l s)(hz:J (U W)<=J (U f))(j:f.heap[L]?=W.heap[L]?)(i:f.heap[ZQ]?=W.heap[ZQ]?)(p:Below (J (U g)) g f):LSt g f n1 b off n cap L ZQ l s:=by have c:∀o,f.cell? (Q L o Y)=W.cell? (Q L o Y):=λo=>cq (a:=(Q L o Y)) j;exact⟨(c 0).trans h.c0,(c 1).trans h.c1,(c 2).trans h.c2,λq m=>⟨(cq (a:=(Q ZQ q Y)) i).trans (h.row q m).1,(JN (a:=(Q ZQ q Y)) i).trans (h.row q m).2⟩,p,⟨h.hL.1,lj h.hL.2 hz⟩,⟨h.hM.1,lj h.hM.2 hz⟩,h.ne,h.hb,h.tyM.eq i,h.tyL.eq j⟩
theorem LSt.aa{c f:M}(h:LSt c W n1 b off n cap L ZQ l s)(hb:Below (J (U W)) W f):LSt c f n1 b off n cap L ZQ l s :=
 h.blocks hb.size (hb.block L h.hL.2) (hb.block ZQ h.hM.2) (h.low.trans (hb.mono h.low.size))
theorem LSt.upd{f i:M}(g:ZL≠4/\ZL≠217)(h:LSt f W n1 b off n cap L ZQ l s)(c:Upd2 ZL (J (U f)) n1 W i):LSt f i n1 b off n cap L ZQ l s :=
 h.blocks c.size (c.block L h.hL.2 (.inr ⟨h.hL.1,h.tyL.ne g.2⟩)) (c.block ZQ h.hM.2 (.inr ⟨h.hM.1,h.tyM.ne g.1⟩)) (h.low.trans (c.aa h.low.size))
theorem LSt.set{p:Nat}(h:LSt g W n1 b off n cap L ZQ l s)(hp:p<n):LSt g (W.setCell (Q ZQ p Y) (.bool ZG)) n1 b off n cap L ZQ l (put s p):=by
 have c:∀o,(W.setCell (Q ZQ p Y) (.bool ZG)).cell? (Q L o Y)=W.cell? (Q L o Y):=λo=>sq _ _ _ _ (by simp;exact λe=>absurd e.symm h.ne);refine⟨(c 0).trans h.c0,(c 1).trans h.c1,(c 2).trans h.c2,λq f=>⟨?_,by simpa using(h.row q f).2⟩,h.low.setCell (by have:=h.hM.1;have:=h.hb;show _<=ZQ;omega) _,by simpa using h.hL,by simpa using h.hM,h.ne,h.hb,h.tyM.set _ _,h.tyL.set _ _⟩;by_cases e:q=p;{subst e;rw[DN _ _ _ (by rw[(h.row q f).1];rfl)];simp[put]};{rw[sq _ _ _ _ (by simp),(h.row q f).1];simp[put,e]}
theorem pB{b:Nat->Nat->(Nat->Bool)->(Nat->Bool) × List (Nat × Nat)}{x:Deed}{d:Nat}(h:i<=m):(lks b x d s i).2 <+: (lks b x d s m).2:=by
 induction m with
 |zero =>
  obtain rfl:i=0:=by omega
  exact UI
 |succ k c =>
  by_cases e:i=k+1;{subst e;exact UI};{refine(c (by omega)).trans ?_;rw[lks];split;{exact UY _ _};{exact UI}}
theorem Gb (hT:ZL≠4/\ZL≠217)(ZN:M)(n1 b off n cap L ZQ l:Nat)(F:List (Nat × Nat))(f:Nat->Deed)(ZO Jx:List (Nat × Nat)->M->Prop)(hA:fW f n)(hn:(n:Int)<=400)(hf:RowDeed ZN b off n f)(la:∀p,p<n->(f p).b<=200)
  (hJ:∀s ZR C,ZO s ZR->Itr 4 n1 ZR C->ZO s C) (mv:∀s ZR C,Jx s ZR->Itr 4 n1 ZR C->Jx s C)
  (hY:∀m c (x:Nat × Nat) W,x.1<n->ZO c W->c++[x] <+: F->n1<=J (U W)->YieldAt Fence.wide m Pg l #[.int I (x.1:Int),.int I (x.2:Int)] W λe u =>
   (e=ZF (.bool ZG)/\ZO (c++[x]) u/\Upd2 ZL (J (U ZN)) n1 W u)∨(e=ZF (.bool ZA)/\Jx (c++[x]) u)) :
  ∀(k p d:Nat) (s:Nat->Bool) (c:List (Nat × Nat)) (W:M) (H:Nat),p<k->p<n->d+p<=1000->LSt ZN W n1 b off n cap L ZQ l s->s p=ZA->ZO c W->c++(lst f k p d s).2 <+: F ->
   CallsIn Fence.wide H Pg 151 #[.pointer (T (Q L 0 Y)),.int I (p:Int),.int I (d:Int)] W λe u =>(e=ZF (.bool ZG)/\ZO (c++(lst f k p d s).2) u/\LSt ZN u n1 b off n cap L ZQ l (lst f k p d s).1)∨(e=ZF (.bool ZA)/\∃q,q <+: (lst f k p d s).2/\Jx (c++q) u):=by
 intro k;induction k with
 |zero=>intro p d s c W H h;omega
 |succ k ih =>
  intro p d s c W H hpk E hdp hS hs ld hN;have HS:=ae hS;have Fm:=ae ld;have HN:=ae hN;have DH:=ae ih;have HY:=ae hY;have HJ:=ae hJ;have HJx:=ae mv;have HA:=ae hA;have HF:=ae hf;obtain⟨_,_,_,_,_,⟨a1,cap1,qr,q5⟩⟩:=hf.2 p E;have p5:=(hS.low.cell (p:=(Q b (off+p*6+5) Y)) hf.1).trans qr;obtain⟨m,hm⟩:∃m,m=(f p).b:=⟨_,rfl⟩
  have hm2:m<=200:=by rw[hm];exact la p E
  rw[<-hm] at p5 q5;have HL:=ae q5;have HM:=ae hm;have e0:=hS.c0;obtain⟨K,ZI⟩:∃K,K=lks (lst f k) (f p) d s:=⟨_,rfl⟩
  have G:Hid (lst f (k+1) p d s=(put (K m).1 p,(K m).2++[(p,d)])):=by rw[ZI,hm];rfl
  have n9:Hid (K 0=(s,[])):=by rw[ZI];rfl
  have Fk:Hid (∀j,K (j+1)=if ((f p).m j).ask=ZG/\(K j).1 ((f p).m j).L.toNat=ZA then ((lst f k ((f p).m j).L.toNat (d+1) (K j).1).1,(K j).2++(lst f k ((f p).m j).L.toNat (d+1) (K j).1).2) else K j):=λj=>by rw[ZI];rfl
  have DQ:Hid (∀i,i<=m->(K i).2 <+: (K m).2):=λi hi=>by rw[ZI];exact pB hi
  clear hS ld hN ih hY hJ mv hA hf q5 hm la qr ZI;refine UB func151 rfl trivial ?_ rfl;simp only[ntmps151,CX,eT,nX,Nat.reduceAdd,Nat.reduceSub,N5,N9,PF,OD,MH,IS];gi_wp2;clear e0 p5;gi_loopw [18] (λi wr=>∃j:Nat,j<=m/\i=.int I j/\Hid (LSt ZN wr n1 b off n cap L ZQ l (K j).1)/\Hid (ZO (c++(K j).2) wr)) (λi _=>m - (intOf i).toNat);case atStart=>exact⟨0,by omega,rfl,by rw[n9.out];exact HS,by rw[n9.out,UJ];exact Fm⟩
  case round =>
   obtain⟨j,hj,rfl,g,ph⟩:=hrel;by_cases DE:j<m
   ·obtain⟨lb,lo,rfl,V⟩:=(HL.aa g.low ly).resolve_left (by omega);obtain⟨d0,d1,d2,d3⟩:=V.2 j DE;clear V;have ZJ:=Fk.out j;have aq:=HA.out p E j (by have:=HM.out;omega);generalize (f p).m j=x at d0 d1 d2 d3 ZJ aq;have ZK:=ae ZJ;clear ZJ;have D:=ae (g.aa (br.alloc ly (N #[.string x.e,.bool x.ask,.bool x.has,.int I x.L] 93)));have J1:=ae (HJ _ _ _ ph (Itr.u ((q9 wr).alloc ly (N #[.string x.e,.bool x.ask,.bool x.has,.int I x.L] 93)) ly (by have:=g.hL;omega)));have e1:(A wr (N #[.string x.e,.bool x.ask,.bool x.has,.int I x.L] 93)).cell? (Q (J (U wr)) 1 Y)=T (.bool x.ask):=by simp
    have e3:(A wr (N #[.string x.e,.bool x.ask,.bool x.has,.int I x.L] 93)).cell? (Q (J (U wr)) 3 Y)=T (.int I x.L):=by simp
    have fd:=ae aq;clear aq;gi_upto_region 4 with fail;clear d0 d1 d2 d3;generalize World.alloc wr _=B at D J1 e1 e3 ⊢;generalize (J (U wr))=X at e1 e3 ⊢;cases hask:x.ask with
    |false =>
     have o:K (j+1)=K j:=by rw[ZK.out,nD (by rw[hask];simp)]
     have t:=ae o;clear o;rw[hask] at e1;have Bk:∀f,Fence.wide.fn f=True:=λ_=>rfl;gi_quiet (fail);have O:=ae (D.aa (AS (q9 B) nq));have ZM:=ae (HJ _ _ _ J1 (Itr.u (AS (q9 B) nq) ly (by have:=D.hL;omega)));gi_wp2;exact⟨⟨j+1,by omega,by go_num,by rw[t.out];exact O,by rw[t.out];exact ZM⟩,by simp[intOf];omega⟩
    |true =>
     obtain⟨q,R⟩:∃q:Nat,x.L=(q:Int):=⟨x.L.toNat,by have:=(fd hask).2;omega⟩
     have hqp:q<p:=by have:=(fd hask).1;rw[R] at this;simpa using this
     rw[R] at e3;rw[hask] at e1;have f1:=D.c1;obtain⟨f2,_⟩:=D.row q (by omega);have hq0:(0:Int)<=q:=by omega
     have hqn:(q:Int)<n:=by omega
     have Bk:∀f,Fence.wide.fn f=True:=λ_=>rfl;cases hl:(K j).1 q with
     |true =>
      have o:K (j+1)=K j:=by rw[ZK.out,nD (by rw[R];simp[hl])]
      have t:=ae o;clear o;rw[hl] at f2;gi_quiet (fail);have O:=ae (D.aa (AS (q9 B) nq));have ZM:=ae (HJ _ _ _ J1 (Itr.u (AS (q9 B) nq) ly (by have:=D.hL;omega)));gi_wp2;exact⟨⟨j+1,by omega,by go_num,by rw[t.out];exact O,by rw[t.out];exact ZM⟩,by simp[intOf];omega⟩
     |false =>
      have o:K (j+1)=((lst f k q (d+1) (K j).1).1,(K j).2++(lst f k q (d+1) (K j).1).2):=by rw[ZK.out,p7 ⟨hask,by rw[R];simpa using hl⟩,R];simp
      have t:=ae o;have S:=DQ.out (j+1) (by omega);rw[o] at S;have dg:=ae S;have bt:((d+1:Nat):Int)=(d:Int)+1:=by omega
      have HC:Hid (∀P H,LSt ZN P n1 b off n cap L ZQ l (K j).1->ZO (c++(K j).2) P->CallsIn Fence.wide H Pg 151 #[.pointer (T (Q L 0 Y)),.int I (q:Int),.int I ((d:Int)+1)] P λe u =>
        ∃r:Bool,e=ZF (.bool r)/\Hid ((r=ZG/\ZO (c++(K (j+1)).2) u/\LSt ZN u n1 b off n cap L ZQ l (K (j+1)).1)∨(r=ZA/\∃q,q <+: (K m).2++[(p,d)]/\Jx (c++q) u))):=by
       intro P H h1 h2;have ZP:(c++(K j).2)++(lst f k q (d+1) (K j).1).2 <+: F:=by have h3:=HN.out;rw[G.out] at h3;obtain⟨z,hz⟩:=h3;obtain⟨y,hy⟩:=dg.out;exact⟨y++[(p,d)]++z,by rw[<-hz];simp only[];rw[<-hy];simp⟩
       have h:=DH.out q (d+1) (K j).1 (c++(K j).2) P H (by omega) (by omega) (by omega) h1 hl h2 ZP;rw[bt] at h;refine h.mono λe u h=>?_;rcases h with ⟨he,hj,hs⟩|⟨he,q',DS,hx⟩
       ·exact⟨ZG,he,.inl ⟨rfl,by rw[t.out,<-MV];exact hj,by rw[t.out];exact hs⟩⟩
       ·refine⟨ZA,he,.inr ⟨rfl,(K j).2++q',?_,by rw[<-MV];exact hx⟩⟩
        obtain⟨z,hz⟩:=DS;obtain⟨y,hy⟩:=dg.out;exact⟨z++y++[(p,d)],by rw[<-hy,<-hz];simp⟩
      have ur:=ae (D.aa ((q9 B).drew));have At:=ae (HJ _ _ _ J1 (Itr.u (q9 B).drew ly (by have:=D.hL;omega)));have hwr:IntKind.i64.wrap ((d:Int)+1)=(d:Int)+1:=by rw[wA];omega
      clear o S;rw[hl] at f2;gi_region_with ((try refine⟨λh=>(by cases h),?_⟩);gi_at_call 151;refine(HC _ _ ?_ ?_).mono ?_;(first|exact ur|exact D);(first|exact At|exact J1);rintro e W3 ⟨r,rfl,H3⟩);all_goals
       cases r with
       |true =>have h3:=H3.resolve_right (λh=>by cases h.1);have S3:=ae h3.2.2;have J3:=ae h3.2.1;clear h3 H3;gi_wp2;exact⟨⟨j+1,by omega,by go_num,S3,J3⟩,by simp[intOf];omega⟩
       |false =>have h3:=H3.resolve_left (λh=>by cases h.1);have X3:=ae h3.2;clear h3 H3;gi_wp2;go_ret;rw[G.out];exact .inr ⟨rfl,X3⟩
   ·have e:m=j:=by omega
    subst e;have O:=ae (g.set E);have ZM:=ae (HJ _ _ _ ph (Itr.setCell wr (p:=(Q ZQ p Y)) g.hM.1 g.tyM (.bool ZG)));have ZP:(c++(K m).2)++[(p,d)] <+: F:=by have h3:=HN.out;rw[G.out] at h3;simpa using h3
    have Fd:=HY.out (H - 1) (c++(K m).2) (p,d) _ E ZM ZP (by have:=g.hL;simp;omega);obtain⟨fn,tmps,assign,body,hy,hR⟩:=Fd;dsimp only at hy;have HR:=ae hR;clear hR;have g1:=g.c1;obtain⟨g3,g4⟩:=g.row p E;have g2:=O.c2;have hp0:(0:Int)<=p:=by omega
    have hpn':(p:Int)<n:=by omega
    gi_wp2;refine⟨λh=>(by cases h),HR.mono ?_⟩;rintro e W3 (⟨rfl,ro,sm⟩|⟨rfl,th⟩);{have J3:=ae ro;have S3:=ae (O.upd hT sm);clear ro sm;gi_wp2;go_ret;rw[G.out];exact .inl ⟨rfl,by rw[<-MV];exact J3,S3⟩};{have X3:=ae th;clear th;gi_wp2;go_ret;rw[G.out];exact .inr ⟨rfl,_,UI,by rw[<-MV];exact X3⟩}
attribute [local go_sem] QU
theorem Dn (i:F.depth=Y){f:FuncId}{tmps:Array ZC}{assign body:Code}{w:M}
  (h:RoundIn F m P l f tmps assign body w R):RoundIn F b P l f tmps assign body w R:=⟨h.1,λc g _=>h.2 c g (λd h=>by rw[i] at h;cases h)⟩
theorem Do (f:F.depth=Y)(b:Nat){args:Array ZC}(h:YieldAt F m P l args W R):YieldAt F b P l args W R:=by obtain⟨fn,tmps,assign,body,c,hR⟩:=h;exact⟨fn,tmps,assign,body,c,Dn f hR⟩
theorem Dp:(Pg.info? 4).map (λi=>(i.zero,i.size,i.bytes))=T (T (.bool ZA),1,1):=by kernel_rfl
def bm (n:Nat):Array ZC:=madeCells (Value.bool ZA).cells n
theorem Ar (n:Nat)(hn:n<=1048576)(w:M):(Instr.makeSlice 154 (.int I (n:Int)) (.int I (n:Int))).run Pg w=.ok (Z (T (Q (J (U w)) 0 Y)) n n) (w.alloc (N (bm n) 4)):=by obtain⟨i,hi,hz⟩:=MN.1 Dp;simp only[MG] at hz;obtain⟨h1,h2,h3⟩:=hz;have h:=run_make (P:=Pg) w 154 4 i _ underlying154 hi h1 I I n n (by omega) (Int.le_refl _) (by rw[h3];omega) (by omega);rw[h2] at h;simpa[bm] using h
theorem tO (n q:Nat)(h:q<n):(bm n)[q]?=T (.bool ZA):=by unfold bm madeCells;simp[Value.cells,h,Nat.mod_one]
theorem pC (W:M)(n q:Nat)(h:q<n):(W.alloc (N (bm n) 4)).cell? (Q (J (U W)) q Y)=T (.bool ZA)/\(W.alloc (N (bm n) 4)).frozen? (Q (J (U W)) q Y)=ZA:=by
 have e:=n6 W (N (bm n) 4);refine⟨?_,?_⟩;{rw[cell_of_row _ _ _ _ _ _ e];exact tO n q h};{unfold World.frozen?;rw[e];simp}
theorem Dq{f:M}(c:Below (J (U f)) f W):LSt f ((W.alloc (N (bm n) 4)).alloc (N #[Z (T (Q b off Y)) n cap,Z (T (Q (J (U W)) 0 Y)) n n,.func (.yield l) #[] #[]] 217)).drew (J (U W)) b off n cap (J (U W)+1) (J (U W)) l (λ_=>ZA):=by
 have hz:(W.alloc (N (bm n) 4)).heap.size=J (U W)+1:=by simp
 have D:Below (J (U W)+1) (W.alloc (N (bm n) 4)) ((W.alloc (N (bm n) 4)).alloc (N #[Z (T (Q b off Y)) n cap,Z (T (Q (J (U W)) 0 Y)) n n,.func (.yield l) #[] #[]] 217)).drew:=(br.alloc (by omega) _).drew;refine⟨?_,?_,?_,λq g=>?_,((c.alloc c.size _).alloc (by simp;have:=c.size;omega) _).drew,by simp,by simp;omega,by omega,c.size,?_,?_⟩;{simp};{simp};{simp};{exact⟨(D.cell (p:=(Q (J (U W)) q Y)) (AI _)).trans (pC W n q g).1,(D.frozen (p:=(Q (J (U W)) q Y)) (AI _)).trans (pC W n q g).2⟩};{exact(OfTy.new W _ _).eq (D.block _ (AI _))};{have h:=OfTy.new (W.alloc (N (bm n) 4)) #[Z (T (Q b off Y)) n cap,Z (T (Q (J (U W)) 0 Y)) n n,.func (.yield l) #[] #[]] 217;rw[hz] at h;exact h.eq rfl}
theorem Dr{f:M}(c:Below (J (U f)) f W):LSt f ((A W (N #[Z (T (Q b off Y)) n cap,Z (T (Q (J (U W)+1) 0 Y)) n n,.func (.yield l) #[] #[]] 217)).alloc (N (bm n) 4)).drew (J (U W)) b off n cap (J (U W)) (J (U W)+1) l (λ_=>ZA):=by
 have hz:(A W (N #[Z (T (Q b off Y)) n cap,Z (T (Q (J (U W)+1) 0 Y)) n n,.func (.yield l) #[] #[]] 217)).heap.size=J (U W)+1:=by simp
 have D:Below (J (U W)+1) (A W (N #[Z (T (Q b off Y)) n cap,Z (T (Q (J (U W)+1) 0 Y)) n n,.func (.yield l) #[] #[]] 217)) ((A W (N #[Z (T (Q b off Y)) n cap,Z (T (Q (J (U W)+1) 0 Y)) n n,.func (.yield l) #[] #[]] 217)).alloc (N (bm n) 4)).drew:=(br.alloc (by omega) _).drew;refine⟨(D.cell (p:=(Q (J (U W)) 0 Y)) (AI _)).trans (by simp),(D.cell (p:=(Q (J (U W)) 1 Y)) (AI _)).trans (by simp),(D.cell (p:=(Q (J (U W)) 2 Y)) (AI _)).trans (by simp),λq g=>?_,((c.alloc c.size _).alloc (by simp;have:=c.size;omega) _).drew,by simp;omega,by simp,by omega,c.size,?_,?_⟩;{have h:=pC (A W (N #[Z (T (Q b off Y)) n cap,Z (T (Q (J (U W)+1) 0 Y)) n n,.func (.yield l) #[] #[]] 217)) n q g;rw[hz] at h;exact h};{have h:=OfTy.new (A W (N #[Z (T (Q b off Y)) n cap,Z (T (Q (J (U W)+1) 0 Y)) n n,.func (.yield l) #[] #[]] 217)) (bm n) 4;rw[hz] at h;exact h.eq rfl};{exact(OfTy.new W _ _).eq (D.block _ (AI _))}
theorem pD (v:ZC)(w:M)(b:Nat):CallsIn Fence.wide b Pg 124 #[.agg #[v]] w λe c=>e=ZF (.func (.func 150) #[] #[.pointer (T (Q (J (U w)) 0 Y))])/\c=A w (N #[v] 25):=by refine UB func124 rfl trivial ?_ rfl;simp only[ntmps124,CX,eT,nX,Nat.reduceAdd,Nat.reduceSub,N5,N9,PF,OD,MH,IS];gi_wp2;go_ret;exact⟨rfl,rfl⟩
theorem tP (hT:ZL≠4/\ZL≠217)(j:M)(b off n cap s C:Nat)(f:Nat->Deed)(w:M)(S:fW f n)(hn1:1<=n)(hn:(n:Int)<=400)(hf:RowDeed j b off n f)(D:∀p,p<n->(f p).b<=200)(i:Below (J (U j)) j w)(ZP:w.cell? (Q s 0 Y)=T (Z (T (Q b off Y)) n cap))(y:s<J (U w)):SeqT2 ZL 4 Fence.wide C Pg 150 #[.pointer (T (Q s 0 Y))] (λx:Nat × Nat=>#[Value.int I (x.1:Int),Value.int I (x.2:Int)]) (λc x=>x.1<n/\c++[x] <+: aD f n) (J (U j)) (λg=>g=aD f n) (λc=>c <+: aD f n) w:=by
 intro l ZO R W B hJ E hY ZR;have X:=Gb hT j (J (U W)) b off n cap;have G:=ae X;clear X;have hB:=(B.cell (p:=(Q s 0 Y)) y).trans ZP;have aq:=λw=>Ar n (by omega) w;have hwb:IntKind.i64.wrap ((n:Int) - 1)=(n:Int) - 1:=by rw[wA];omega
 have P:=ae hJ;have F:=ae E;have HY:=ae hY;have H0:=ae ZR;have HA:=ae S;have ZI:=ae hf;have H:=ae D;have o:=ae (i.trans (B.mono i.size));have V:s<J (U W):=lj y B.size;clear hJ E hY ZR S hf D i B ZP y;refine UB func150 rfl trivial ?_ rfl;simp only[ntmps150,CX,eT,nX,Nat.reduceAdd,Nat.reduceSub,N5,N9,PF,OD,MH,IS];have K:∀L ZQ u,LSt j u (J (U W)) b off n cap L ZQ l (λ_=>ZA)->Below (J (U W)) W u->CallsIn Fence.wide (C - 1) Pg 151 #[.pointer (T (Q L 0 Y)),.int I ((n:Int) - 1),.int I 0] u λe t =>
   ∃r:Bool,e=ZF (.bool r)/\Hid ((∃g,g=aD f n/\ZO g t)∨(∃c,c <+: aD f n/\R c t)):=by
  intro L ZQ u O bt;have h:=G.out L ZQ l (aD f n) f ZO R HA hn ZI H P F (λm c x W1 ZR h1 h2 h3=>Do rfl m (HY c x W1 ⟨ZR,h2⟩ h1 h3)) n (n - 1) 0 (λ_=>ZA) [] u (C - 1) (by omega) (by omega) (by omega) O rfl (P _ _ _ H0 (Itr.u bt ly  ly)) (by simp[aD]);rw[show((n - 1:Nat):Int)=(n:Int) - 1 by omega] at h;refine h.mono λe t h=>?_;rcases h with ⟨ZM,hj,_⟩|⟨ZM,q,hq,hx⟩
  ·exact⟨ZG,ZM,.inl ⟨_,rfl,by simpa[aD] using hj⟩⟩
  ·exact⟨ZA,ZM,.inr ⟨q,hq,by simpa using hx⟩⟩
 have z:=ae K;have ZK:=ae (((q9 W).alloc ly (N (bm n) 4)).alloc (by simp) (N #[Z (T (Q b off Y)) n cap,Z (T (Q (J (U W)) 0 Y)) n n,.func (.yield l) #[] #[]] 217)).drew;have D2:=ae (((q9 W).alloc ly (N #[Z (T (Q b off Y)) n cap,Z (T (Q (J (U W)+1) 0 Y)) n n,.func (.yield l) #[] #[]] 217)).alloc (by simp) (N (bm n) 4)).drew;have hfw:∀f,Fence.wide.fn f=True:=λ_=>rfl;clear K G P F HY H0 HA ZI H;gi_upto_region 0 with fail;gi_cut [3] from 4 (λs3 ZJ=>∃L,s3=.pointer (T (Q L 0 Y))/\Hid (∃ZQ,LSt j ZJ (J (U W)) b off n cap L ZQ l (λ_=>ZA))/\Hid (Below (J (U W)) W ZJ));case first =>
  have hsf:=λ(w:M) (a:Addr) (m:Mode)=>run_store Pg w a (.func (.yield l) #[] #[]) m rfl;gi_region_with fail;all_goals
   gi_wp2_with fail;gi_meet;first
    |exact⟨J (U W)+1,rfl,⟨J (U W),Dq o⟩,ZK⟩
    |exact⟨J (U W),rfl,⟨J (U W)+1,Dr o⟩,D2⟩
 case rest =>
 obtain⟨L,rfl,HS,ZN⟩:=hcut;have hB1:=(ZN.cell (p:=(Q s 0 Y)) V).trans hB;have HC:Hid (CallsIn Fence.wide (C - 1) Pg 151 #[.pointer (T (Q L 0 Y)),.int I ((n:Int) - 1),.int I 0] wc λe t=>∃r:Bool,e=ZF (.bool r)/\Hid ((∃g,g=aD f n/\ZO g t)∨(∃c,c <+: aD f n/\R c t))):=by obtain⟨ZQ,O⟩:=HS.out;exact z L ZQ wc O ZN
 clear z HS aq ZN o ZK D2 hB;gi_wp2_with ((try refine⟨λh=>(by cases h),?_⟩);gi_at_call 151;refine HC.mono ?_;rintro e W3 ⟨r,rfl,H3⟩);go_end0;exact⟨⟨_,rfl⟩,H3⟩
theorem nU (c:M)(b off n cap g m:Nat)(f:Nat->Deed)(w:M)(r:fW f n)(hn1:1<=n)(hn:(n:Int)<=400)(t:RowDeed c b off n f)(l:∀p,p<n->(f p).b<=200)(j:Below (J (U c)) c w)(q:w.cell? (Q g 0 Y)=T (Z (T (Q b off Y)) n cap))(o:g<J (U w)):Cq Fence.wide m Pg 150 #[.pointer (T (Q g 0 Y))] (λx:Nat × Nat=>#[Value.int I (x.1:Int),Value.int I (x.2:Int)]) (λx=>x.1<n) (J (U c)) (λs=>s=aD f n) (λi=>i <+: aD f n) (aD f n).length w :=
 (tP (ZL:=62) ⟨by decide,by decide⟩ c b off n cap g m f w r hn1 hn t l j q o).plain λi x h=>⟨h.1,by have:=h.2.length_le;simp at this;omega⟩
attribute [local go_sem] QU
theorem pE{b:List (Nat × Nat)}(h:bw i b=-1):bw i (b++[x])=if x.1=i+b.length then -1 else ((i+b.length:Nat):Int):=by
 induction b generalizing i with
 |nil=>simp[bw]
 |cons y c f =>
  simp only[bw,IS] at h ⊢;split at h
  ·rename_i e;rw[p7 e,f h];simp only[eT];have:i+1+c.length=i+(c.length+1):=by omega
   rw[this]
  {omega}
theorem tQ{b:List (Nat × Nat)}(f:b <+: c)(h:bw i b≠-1):bw i c=bw i b:=by
 induction b generalizing i c with
 |nil=>exact absurd rfl h
 |cons y ys g =>
  obtain⟨t,rfl⟩:=f;simp only[bw,IS] at h ⊢;split;{rename_i e;rw[p7 e] at h;exact g (UY _ _) h};{rfl}
theorem vN{b:List (Nat × Nat)}(h:aY f b=-1):aY f (b++[x])=if (f x.1).E=3/\60<=x.2 then (x.1:Int) else -1:=by
 induction b with
 |nil=>simp[aY]
 |cons y ys c =>
  simp only[aY,IS] at h ⊢;split at h;{omega};{rename_i e;rw[nD e,c h]}
theorem sL{b:List (Nat × Nat)}(g:b <+: c)(h:aY f b≠-1):aY f c=aY f b:=by
 induction b generalizing c with
 |nil=>exact absurd rfl h
 |cons y ys i =>
  obtain⟨t,rfl⟩:=g;simp only[aY,IS] at h ⊢;split;{rfl};{rename_i e;rw[nD e] at h;exact i (UY _ _) h}
structure IQ (W:M)(h:Nat)(v:ZC):Prop where
 size:J (U W)=h+4
 r:W.cell? (Q (h+1) 0 Y)=T (.int I 0)/\W.frozen? (Q (h+1) 0 Y)=ZA
 t:W.cell? (Q (h+1+1) 0 Y)=T (.int I 0)/\W.frozen? (Q (h+1+1) 0 Y)=ZA
 a:W.cell? (Q (h+1+1+1) 0 Y)=T v
 a0:W.cell? (Q h 0 Y)=T v
theorem yx (w:M)(v:ZC)(t u:ZH):IQ ((((A w (N #[v] t)).alloc (N #[.int I 0] u)).alloc (N #[.int I 0] u)).alloc (N #[v] t)) (J (U w)) v:=by
 have c:(A w (N #[v] t)).heap.size=J (U w)+1:=by simp
 have b:((A w (N #[v] t)).alloc (N #[.int I 0] u)).heap.size=J (U w)+1+1:=by simp
 have f:(((A w (N #[v] t)).alloc (N #[.int I 0] u)).alloc (N #[.int I 0] u)).heap.size=J (U w)+1+1+1:=by simp
 have i:Below (J (U w)+1) (A w (N #[v] t)) ((((A w (N #[v] t)).alloc (N #[.int I 0] u)).alloc (N #[.int I 0] u)).alloc (N #[v] t)):=((br.alloc (by omega) _).alloc (by omega) _).alloc (by omega) _;have g:Below (J (U w)+1+1) ((A w (N #[v] t)).alloc (N #[.int I 0] u)) ((((A w (N #[v] t)).alloc (N #[.int I 0] u)).alloc (N #[.int I 0] u)).alloc (N #[v] t)):=(br.alloc (by omega) _).alloc (by omega) _;have h:Below (J (U w)+1+1+1) (((A w (N #[v] t)).alloc (N #[.int I 0] u)).alloc (N #[.int I 0] u)) ((((A w (N #[v] t)).alloc (N #[.int I 0] u)).alloc (N #[.int I 0] u)).alloc (N #[v] t)):=br.alloc (by omega) _;refine⟨by simp,⟨?_,?_⟩,⟨?_,?_⟩,?_,(i.cell (p:=(Q (J (U w)) 0 Y)) (AI _)).trans (by simp)⟩;{refine(g.cell (p:=(Q (J (U w)+1) 0 Y)) (AI _)).trans ?_;rw[<-c];clear i g h c b f;generalize A w (N #[v] t)=W;simp};{refine(g.frozen (p:=(Q (J (U w)+1) 0 Y)) (AI _)).trans ?_;rw[<-c];clear i g h c b f;generalize A w (N #[v] t)=W;simp};{refine(h.cell (p:=(Q (J (U w)+1+1) 0 Y)) (AI _)).trans ?_;rw[<-b];clear i g h c b f;generalize (A w (N #[v] t)).alloc (N #[.int I 0] u)=W;simp};{refine(h.frozen (p:=(Q (J (U w)+1+1) 0 Y)) (AI _)).trans ?_;rw[<-b];clear i g h c b f;generalize (A w (N #[v] t)).alloc (N #[.int I 0] u)=W;simp};{rw[<-f];clear i g h c b f;generalize ((A w (N #[v] t)).alloc (N #[.int I 0] u)).alloc (N #[.int I 0] u)=W;simp}
theorem sM (b off n cap:Nat)(f:Nat->Deed)(w:M)(X:fW f n)(hn1:1<=n)(hn:(n:Int)<=400)(ZP:RowDeed w b off n f)(ZN:∀p,p<n->(f p).b<=200)(hlen:(aD f n).length<=400):Calls Pg 88 #[.agg #[Z (T (Q b off Y)) n cap]] w λe w'=>e=ZF (.int I (bw 0 (aD f n)))/\Below (J (U w)) w w':=by
 refine(TP (n:=3)).1 ?_;have HF:=ae ZP;have HA:=ae X;have ZJ:=ae ZN;clear ZP X ZN;have ZQ:=((((q9 w).alloc ly (N #[Z (T (Q b off Y)) n cap] 25)).alloc (by simp) (N #[.int I 0] 3)).alloc (by simp;omega) (N #[.int I 0] 3)).alloc (by simp;omega) (N #[Z (T (Q b off Y)) n cap] 25);have V:=ae ZQ;clear ZQ;have D:=ae (yx w (Z (T (Q b off Y)) n cap) 25 3);refine callsIn_of_wp_marks func88 rfl trivial ?_ rfl;simp only[ntmps88,CX,eT,nX,Nat.reduceAdd,Nat.reduceSub,N5,N9,PF,OD,MH,IS];gi_wp2_with (refine⟨trivial,?_⟩;gi_at_call 124;refine(pD _ _ _).mono ?_;rintro e w' ⟨rfl,rfl⟩);generalize World.alloc (World.alloc (World.alloc (World.alloc w _) _) _) _=W at V D ⊢;have hsz:=D.size;obtain⟨ZM,O⟩:=D.r;obtain⟨R,ZO⟩:=D.t;refine jA (F:=Fence.wide) rfl (by omega) (gf:=150) (lb:=#[.pointer (T (Q (J (U w)+1+1+1) 0 Y))]) rfl trivial (enters_of func150 (by kernel_rfl) rfl) (base:=J (U w)) (by omega)
  (nU w b off n cap (J (U w)+1+1+1) (3 - 1) f W HA hn1 hn HF ZJ V D.a (by omega)) br (λ_=>rfl)
  (λg j=>j.cell? (Q (J (U w)+1+1) 0 Y)=T (.int I (g.length:Int))/\j.frozen? (Q (J (U w)+1+1) 0 Y)=ZA/\j.cell? (Q (J (U w)+1) 0 Y)=T (.int I 0)/\j.frozen? (Q (J (U w)+1) 0 Y)=ZA/\Hid (bw 0 g=-1)/\Hid (Below (J (U w)) w j))
  (λc g j=>c=.ret/\j.cell? (Q (J (U w)+1) 0 Y)=T (.int I (bw 0 g))/\Hid (bw 0 g≠-1)/\Hid (Below (J (U w)) w j))
  (λs ZR B h m=>⟨(m.cell (p:=(Q (J (U w)+1+1) 0 Y)) (by show (J (U w))+1+1<J (U W);omega)).trans h.1,(m.frozen (p:=(Q (J (U w)+1+1) 0 Y)) (by show (J (U w))+1+1<J (U W);omega)).trans h.2.1,(m.cell (p:=(Q (J (U w)+1) 0 Y)) (by show (J (U w))+1<J (U W);omega)).trans h.2.2.1,(m.frozen (p:=(Q (J (U w)+1) 0 Y)) (by show (J (U w))+1<J (U W);omega)).trans h.2.2.2.1,h.2.2.2.2.1,h.2.2.2.2.2.trans (m.mono (by omega))⟩)
  (λc s ZR B h m=>⟨h.1,(m.cell (p:=(Q (J (U w)+1) 0 Y)) (by show (J (U w))+1<J (U W);omega)).trans h.2.1,h.2.2.1,h.2.2.2.trans (m.mono (by omega))⟩)
  ⟨R,ZO,ZM,O,rfl,V⟩
  (λx=>{ tmps:=#[.agg #[Z (T (Q b off Y)) n cap],.pointer (T (Q (J (U w)) 0 Y)),.pointer (T (Q (J (U w)+1) 0 Y)),.pointer (T (Q (J (U w)+1+1) 0 Y)),.int I (x.1:Int),.agg #[Z (T (Q b off Y)) n cap],.func (.func 150) #[] #[.pointer (T (Q (J (U w)+1+1+1) 0 Y))],.int I (x.1:Int),.int I (x.2:Int),undef,undef,undef,undef,undef,undef],defers:=[] }) ?assign ?body ?done ?stop
 case assign =>intro l x W K u;gi_wp2;exact u
 case body =>
  rintro l g x i _ ⟨hc,ZP,z,L,q,y⟩ hlt hz;clear ZM O R ZO;have hpl:(g.length:Int)<=1048576:=by omega
  by_cases hx:(x.1:Int)=(g.length:Int)
  ·have H:bw 0 (g++[x])=-1:=by rw[pE q.out,p7 (by omega)]
   have o:=ae H;clear H;have S:=ae (Upd.setCell (P:=λk=>J (U w)<=k/\k<J (U W)) i (p:=(Q (J (U w)+1+1) 0 Y)) ⟨by show _<=_+1+1;omega,by show _+1+1<_;omega⟩ (.int I ((g.length:Int)+1)));have G:=ae (y.setCell (p:=(Q (J (U w)+1+1) 0 Y)) (by show _<=_+1+1;omega) (.int I ((g.length:Int)+1)));have c1:(i.setCell (Q (J (U w)+1+1) 0 Y) (.int I ((g.length:Int)+1))).cell? (Q (J (U w)+1+1) 0 Y)=T (.int I ((g++[x]).length:Int)):=by rw[DN _ _ _ (by rw[hc];rfl)];simp
   have c2:(i.setCell (Q (J (U w)+1+1) 0 Y) (.int I ((g.length:Int)+1))).cell? (Q (J (U w)+1) 0 Y)=T (.int I 0):=by rw[sq _ _ _ _ (by simp)];exact z
   have C:=ae c1;have C2:=ae c2;clear c1 c2;gi_wp2;exact⟨S,C,by simpa using ZP,C2,by simpa using L,o,G⟩
  ·have H:bw 0 (g++[x])=(g.length:Int):=by rw[pE q.out,nD (by omega)];simp
   have o:=ae H;clear H;have S:=ae (Upd.setCell (P:=λk=>J (U w)<=k/\k<J (U W)) i (p:=(Q (J (U w)+1) 0 Y)) ⟨by show _<=_+1;omega,by show _+1<_;omega⟩ (.int I (g.length:Int)));have G:=ae (y.setCell (p:=(Q (J (U w)+1) 0 Y)) (by show _<=_+1;omega) (.int I (g.length:Int)));have C:=ae (DN i (Q (J (U w)+1) 0 Y) (.int I (g.length:Int)) (by rw[z];rfl));gi_wp2;exact⟨S,rfl,by rw[o.out];exact C,by show _≠_;rw[o.out];omega,G⟩
 case done =>rintro ZI ys i ZK rfl ⟨_,_,z,L,q,y⟩ u;have K1:=ae ((KeepsOthers.setCell i (Q (J (U w)+1) 0 Y) (.int I (-1))).same ZI _ u rfl);have G:=ae (y.setCell (p:=(Q (J (U w)+1) 0 Y)) (by show _<=_+1;omega) (.int I (-1)));have C:=ae (DN i (Q (J (U w)+1) 0 Y) (.int I (-1)) (by rw[z];rfl));gi_wp2;refine⟨by simp,.inl ⟨_,_,rfl,run_takeDeferred K1,?_⟩⟩;have E:=cY (n:=J (U W)) (i.setCell (Q (J (U w)+1) 0 Y) (.int I (-1))) ZK (gM.1 K1).1 (.deferred Y);have c:=(E.cell (p:=(Q (J (U w)+1) 0 Y)) (by show (J (U w))+1<J (U W);omega)).trans C;exact⟨.int I (-1),by simp[results,results88,go_sem,c],by rw[q.out],G.trans (E.mono (by omega))⟩
 case stop =>rintro ZI c g i ZK ZL ⟨rfl,z,q,y⟩ u;gi_wp2;refine⟨by simp,.inl ⟨_,_,rfl,run_takeDeferred u,?_⟩⟩;have E:=cY (n:=J (U W)) i ZK (gM.1 u).1 (.deferred Y);have c:=(E.cell (p:=(Q (J (U w)+1) 0 Y)) (by show (J (U w))+1<J (U W);omega)).trans z;exact⟨.int I (bw 0 g),by simp[results,results88,go_sem,c],by rw[tQ ZL q.out],y.trans (E.mono (by omega))⟩
structure IU (W:M)(h:Nat)(v:ZC):Prop where
 size:J (U W)=h+3
 r:W.cell? (Q (h+1) 0 Y)=T (.int I 0)/\W.frozen? (Q (h+1) 0 Y)=ZA
 a:W.cell? (Q (h+1+1) 0 Y)=T v
 a0:W.cell? (Q h 0 Y)=T v
theorem yy (w:M)(v:ZC)(t u:ZH):IU (((A w (N #[v] t)).alloc (N #[.int I 0] u)).alloc (N #[v] t)) (J (U w)) v:=by
 have b:(A w (N #[v] t)).heap.size=J (U w)+1:=by simp
 have c:((A w (N #[v] t)).alloc (N #[.int I 0] u)).heap.size=J (U w)+1+1:=by simp
 have g:Below (J (U w)+1) (A w (N #[v] t)) (((A w (N #[v] t)).alloc (N #[.int I 0] u)).alloc (N #[v] t)):=(br.alloc (by omega) _).alloc (by omega) _;have f:Below (J (U w)+1+1) ((A w (N #[v] t)).alloc (N #[.int I 0] u)) (((A w (N #[v] t)).alloc (N #[.int I 0] u)).alloc (N #[v] t)):=br.alloc (by omega) _;refine⟨by simp,⟨?_,?_⟩,?_,(g.cell (p:=(Q (J (U w)) 0 Y)) (AI _)).trans (by simp)⟩;{refine(f.cell (p:=(Q (J (U w)+1) 0 Y)) (AI _)).trans ?_;rw[<-b];clear g f b c;generalize A w (N #[v] t)=W;simp};{refine(f.frozen (p:=(Q (J (U w)+1) 0 Y)) (AI _)).trans ?_;rw[<-b];clear g f b c;generalize A w (N #[v] t)=W;simp};{rw[<-c];clear g f b c;generalize (A w (N #[v] t)).alloc (N #[.int I 0] u)=W;simp}
theorem vO (b off n cap:Nat)(f:Nat->Deed)(w:M)(S:fW f n)(hn1:1<=n)(hn:(n:Int)<=400)(hf:RowDeed w b off n f)(H:∀p,p<n->(f p).b<=200):Calls Pg 89 #[.agg #[Z (T (Q b off Y)) n cap]] w λe V=>e=ZF (.int I (aY f (aD f n)))/\Below (J (U w)) w V:=by
 refine(TP (n:=3)).1 ?_;have X:=ae hf;have HA:=ae S;have ZL:=ae H;clear hf S H;obtain⟨W,D⟩:∃W:M,((A w (N #[Z (T (Q b off Y)) n cap] 25)).alloc (N #[.int I 0] 3)).alloc (N #[Z (T (Q b off Y)) n cap] 25)=W:=⟨_,rfl⟩
 obtain⟨u,-,-,-,-⟩:=nb3 D;replace u:=u.out;have ZP:=ae D;clear D;have A0:=ae u;clear u;have E:=ae (yy w (Z (T (Q b off Y)) n cap) 25 3);refine callsIn_of_wp_marks func89 rfl trivial ?_ rfl;simp only[ntmps89,CX,eT,nX,Nat.reduceAdd,Nat.reduceSub,N5,N9,PF,OD,MH,IS];gi_wp2_with (refine⟨trivial,?_⟩;gi_at_call 124;refine(pD _ _ _).mono ?_;rintro e V ⟨rfl,rfl⟩);rw[ZP.out] at E ⊢;clear ZP;have hsz:=E.size;obtain⟨L,ZO⟩:=E.r;have ZJ:=E.a0;refine jA (F:=Fence.wide) rfl (by omega) (gf:=150) (lb:=#[.pointer (T (Q (J (U w)+1+1) 0 Y))]) rfl trivial (enters_of func150 (by kernel_rfl) rfl) (base:=J (U w)) (by omega)
  (nU w b off n cap (J (U w)+1+1) (3 - 1) f W HA hn1 hn X ZL A0 E.a (by omega)) br (λ_=>rfl)
  (λg o=>o.cell? (Q (J (U w)) 0 Y)=T (Z (T (Q b off Y)) n cap)/\o.cell? (Q (J (U w)+1) 0 Y)=T (.int I 0)/\o.frozen? (Q (J (U w)+1) 0 Y)=ZA/\Hid (aY f g=-1)/\Hid (Below (J (U w)) w o))
  (λc g o=>c=.ret/\o.cell? (Q (J (U w)+1) 0 Y)=T (.int I (aY f g))/\Hid (aY f g≠-1)/\Hid (Below (J (U w)) w o))
  (λs ZR B h t=>⟨(t.cell (p:=(Q (J (U w)) 0 Y)) (by show (J (U w))<J (U W);omega)).trans h.1,(t.cell (p:=(Q (J (U w)+1) 0 Y)) (by show (J (U w))+1<J (U W);omega)).trans h.2.1,(t.frozen (p:=(Q (J (U w)+1) 0 Y)) (by show (J (U w))+1<J (U W);omega)).trans h.2.2.1,h.2.2.2.1,h.2.2.2.2.trans (t.mono (by omega))⟩)
  (λc s ZR B h t=>⟨h.1,(t.cell (p:=(Q (J (U w)+1) 0 Y)) (by show (J (U w))+1<J (U W);omega)).trans h.2.1,h.2.2.1,h.2.2.2.trans (t.mono (by omega))⟩)
  ⟨ZJ,L,ZO,rfl,A0⟩
  (λx=>{ tmps:=#[.agg #[Z (T (Q b off Y)) n cap],.pointer (T (Q (J (U w)) 0 Y)),.pointer (T (Q (J (U w)+1) 0 Y)),.int I (x.1:Int),.int I (x.2:Int),.agg #[Z (T (Q b off Y)) n cap],.func (.func 150) #[] #[.pointer (T (Q (J (U w)+1+1) 0 Y))],.int I (x.1:Int),.int I (x.2:Int),undef,undef,undef,undef,undef,undef,undef,undef,undef,undef,undef,undef],defers:=[] }) ?assign ?body ?done ?stop
 case assign =>intro l x W K y;gi_wp2;exact y
 case body =>
  rintro l g x m aq ⟨ZI,q,C,z,j⟩ hlt hz;clear L ZO ZJ;obtain⟨_,p1,_⟩:=(X.aa j ly).2 x.1 aq;have hx0:(0:Int)<=(x.1:Int):=by omega
  have hxn:(x.1:Int)<n:=by omega
  have ZQ:=ae (vN (x:=x) z);have U1:=ae (Upd.setCell (P:=λk=>J (U w)<=k/\k<J (U W)) m (p:=(Q (J (U w)+1) 0 Y)) ⟨by show _<=_+1;omega,by show _+1<_;omega⟩ (.int I (x.1:Int)));have R:=ae (j.setCell (p:=(Q (J (U w)+1) 0 Y)) (by show _<=_+1;omega) (.int I (x.1:Int)));have O:=ae (DN m (Q (J (U w)+1) 0 Y) (.int I (x.1:Int)) (by rw[q];rfl));cases h3:((f x.1).E == 3) with
  |false =>
   have i:Hid (aY f (g++[x])=-1):=by show _=_;rw[ZQ.out,nD (by intro h;rw[h.1] at h3;simp at h3)]
   gi_wp2;exact⟨Upd.refl _ _,ZI,q,C,i,j⟩
  |true =>
   by_cases h6:(60:Int)<=(x.2:Int)
   ·have i:Hid (aY f (g++[x])=(x.1:Int)):=by show _=_;rw[ZQ.out,p7 ⟨by simpa using h3,by omega⟩]
    gi_wp2;exact⟨U1,rfl,by rw[i.out];exact O,by show _≠_;rw[i.out];omega,R⟩
   ·have i:Hid (aY f (g++[x])=-1):=by show _=_;rw[ZQ.out,nD (by intro h;omega)]
    gi_wp2;exact⟨Upd.refl _ _,ZI,q,C,i,j⟩
 case done =>rintro ZK ys m ZM rfl ⟨_,q,C,z,j⟩ y;have K1:=ae ((KeepsOthers.setCell m (Q (J (U w)+1) 0 Y) (.int I (-1))).same ZK _ y rfl);have R:=ae (j.setCell (p:=(Q (J (U w)+1) 0 Y)) (by show _<=_+1;omega) (.int I (-1)));have O:=ae (DN m (Q (J (U w)+1) 0 Y) (.int I (-1)) (by rw[q];rfl));gi_wp2;refine⟨by simp,.inl ⟨_,_,rfl,run_takeDeferred K1,?_⟩⟩;have G:=cY (n:=J (U W)) (m.setCell (Q (J (U w)+1) 0 Y) (.int I (-1))) ZM (gM.1 K1).1 (.deferred Y);have c:=(G.cell (p:=(Q (J (U w)+1) 0 Y)) (by show (J (U w))+1<J (U W);omega)).trans O;exact⟨.int I (-1),by simp[results,results89,go_sem,c],by rw[z.out],R.trans (G.mono (by omega))⟩
 case stop =>rintro ZK c g m ZM ZN ⟨rfl,q,z,j⟩ y;gi_wp2;refine⟨by simp,.inl ⟨_,_,rfl,run_takeDeferred y,?_⟩⟩;have G:=cY (n:=J (U W)) m ZM (gM.1 y).1 (.deferred Y);have c:=(G.cell (p:=(Q (J (U w)+1) 0 Y)) (by show (J (U w))+1<J (U W);omega)).trans q;exact⟨.int I (aY f g),by simp[results,results89,go_sem,c],by rw[sL ZN z.out],j.trans (G.mono (by omega))⟩
theorem pF (g:Nat->Bool)(n:Nat):aM g n=-1∨0<=aM g n:=by
 induction n with
 |zero=>exact .inl rfl
 |succ k b =>
  rw[aM];split;{split;{exact .inl rfl};{exact .inr (by omega)}};{exact b}
theorem Ds (i:Nat)(b:List (Nat × Nat)):bw i b=-1∨0<=bw i b:=by
 induction b generalizing i with
 |nil=>exact .inl rfl
 |cons x b c =>
  rw[bw];split;{exact c _};{exact .inr (by omega)}
theorem rL (f:Nat->Deed)(b:List (Nat × Nat)):aY f b=-1∨0<=aY f b:=by
 induction b with
 |nil=>exact .inl rfl
 |cons x b c =>
  rw[aY];split;{exact .inr (by omega)};{exact c}
theorem oM (h:aM (be f) n=-1):∀p,p<n->(f p).b<=200:=by
 intro p b;have h1:=fL h p b;simp only[be,zA,kindOk] at h1;obtain⟨_,h2⟩:=h1;split at h2;{simp[aX] at h2;omega};{split at h2;{simp[aX] at h2;omega};{split at h2;{simp only[cG,zA,z8] at h2;omega};{cases h2}}}
theorem Dt (h:aM (be f) n=-1):∀p,p<n->(f p).e.size<=maxLen:=by intro p b;have h1:=fL h p b;simp only[be,aw,zA,z8] at h1;unfold maxLen;omega
theorem kH (b:fW f n)(hn:1<=n):(aD f n).length<=n:=by
 have h:=(wT b n (n - 1) 0 (λ_=>ZA) (by omega) (by omega) rfl).num;have h2:=Ho (lst f n (n - 1) 0 (λ_=>ZA)).1 n;have h3:∀k,cnt (λ_=>ZA) k=0:=by
  intro k;induction k with
  |zero=>rfl
  |succ j c=>rw[cnt,c];rfl
 rw[h3] at h;unfold aD;omega
structure IW (w:M)(b:Nat)(v0 v1 v2 v3:ZC):Prop where
 lt:b<J (U w)
 c0:w.cell? (Q b 0 Y)=T v0
 c1:w.cell? (Q b 1 Y)=T v1
 c2:w.cell? (Q b 2 Y)=T v2
 c3:w.cell? (Q b 3 Y)=T v3
theorem Gc (w:M)(b g c f:ZC)(t:ZH):IW (A w (N #[b,g,c,f] t)) (J (U w)) b g c f:=⟨by simp,by simp,by simp,by simp,by simp⟩
theorem vP (a:Option Addr)(n cap:Nat)(f:Nat->Deed)(w:M)(hn:(n:Int)<=1048576)(ZK:SlDeed w a n f)(ZO:(n:Int)<=cap)(C:∀i,i<n->dk (f i))(R:Tab w):Calls Pg 44 #[.agg #[Z a n cap]] w λe w'=>e=ZF (.tuple #[.int I (eN f n).1,.int I (eN f n).2])/\Below (J (U w)) w w':=by
 have O:=ae ZK;have ZJ:=ae C;have ZM:=ae R;clear ZK C R;have G:=ae ((q9 w).alloc ly (N #[Z a n cap] 25));have S:(A w (N #[Z a n cap] 25)).cell? (Q (J (U w)) 0 Y)=T (Z a n cap):=by simp
 obtain⟨c1,c2,q⟩:∃c1 c2,eN f n=(c1,c2):=⟨_,_,rfl⟩
 rw[q];have y:=ae q;clear q;by_cases P:(n:Int)=0
 ·have c:c1=1/\c2=0:=by have:=y.out;unfold eN at this;rw[p7 (.inl (by omega))] at this;simp only[MG] at this;omega
  clear y;obtain⟨c,o⟩:=c;subst c o;obtain rfl:n=0:=by omega
  go_enter func44,ntmps44;go_wp2;go_ret2;exact⟨rfl,G⟩
 by_cases h4:(400:Int)<(n:Int)
 ·have c:c1=1/\c2=0:=by have:=y.out;unfold eN at this;rw[p7 (.inr (by omega))] at this;simp only[MG] at this;omega
  clear y;obtain⟨c,o⟩:=c;subst c o;have V:((n:Int) == 0)=ZA:=by simpa using P
  go_enter func44,ntmps44;go_wp2;go_ret2;exact⟨rfl,G⟩
 have u:Hid ((if aM (be f) n≠-1 then ((2:Int),aM (be f) n) else if aM (λp=>ba f p p) n≠-1 then (3,aM (λp=>ba f p p) n) else if bw 0 (aD f n)≠-1 then (4,bw 0 (aD f n)) else if aY f (aD f n)≠-1 then (5,aY f (aD f n)) else (0,0))=(c1,c2)):=by have:=y.out;unfold eN at this;rw[nD (by omega)] at this;exact this
 clear y;obtain⟨b,off,rfl,B⟩:=O.resolve_left (by omega);have H:=ae B;have V:((n:Int) == 0)=ZA:=by simpa using P
 clear O B;have r:(n:Int)<=400:=by omega
 have L:=ae (G.alloc (by simp) (N #[.func (.func 86) #[] #[],.func (.func 87) #[] #[],.func (.func 88) #[] #[],.func (.func 89) #[] #[]] 144));go_enter func44,ntmps44;go_wp2;have ZP:(A w (N #[Z (T (Q b off Y)) n cap] 25)).heap.size=J (U w)+1:=by simp
 have m:=ae (Gc (A w (N #[Z (T (Q b off Y)) n cap] 25)) (.func (.func 86) #[] #[]) (.func (.func 87) #[] #[]) (.func (.func 88) #[] #[]) (.func (.func 89) #[] #[]) 144);rw[ZP] at m;have ZL:=(((eL (J (U w)+1) (A w (N #[Z (T (Q b off Y)) n cap] 25))).alloc (by omega) (N #[.func (.func 86) #[] #[],.func (.func 87) #[] #[],.func (.func 88) #[] #[],.func (.func 89) #[] #[]] 144)).cell (p:=(Q (J (U w)) 0 Y)) (AI _)).trans S;clear ZP S G;generalize World.alloc (World.alloc w _) _=W at L m ZL ⊢;have s:J (U w)+1<J (U W):=m.lt;go_loopw [21] (λi wr=>∃k:Nat,k<=4/\i=.int I k/\Hid (1<=k->aM (be f) n=-1)/\Hid (2<=k->aM (λp=>ba f p p) n=-1)/\Hid (3<=k->bw 0 (aD f n)=-1)/\Hid (4<=k->aY f (aD f n)=-1)/\Hid (Below (J (U W)) W wr)) (λi _=>4 - (intOf i).toNat);case atStart=>exact⟨0,by omega,rfl,λh=>by omega,λh=>by omega,λh=>by omega,λh=>by omega,eL _ _⟩
 case round =>
  obtain⟨k,hk,rfl,g,F,ZQ,ZI,j⟩:=hrel;have k2:=(j.cell (p:=(Q (J (U w)) 0 Y)) (by show (J (U w))<_;omega)).trans ZL;have l:=ae (L.trans (j.mono L.size));by_cases hlt:k<4
  ·rcases(show(True/\k=0)∨(True/\k=1)∨(True/\k=2)∨(True/\k=3) by rcases(show k=0∨k=1∨k=2∨k=3 by omega) with h|h|h|h<;>simp[h]) with ⟨M0,rfl⟩|⟨M1,rfl⟩|⟨M2,rfl⟩|⟨M3,rfl⟩
   all_goals
    first
     |(guard_hyp M0;have K:=(j.cell (p:=(Q (J (U w)+1) 0 Y)) s).trans m.c0;have z:=ae (sH b off n cap f _ r (H.aa l ly) ZO ZJ (ZM.aa l ZM.1));have x:=ae (pF _ _:aM (be f) n=-1∨0<=aM (be f) n);obtain⟨X,hX⟩:∃X,X=aM (be f) n:=⟨_,rfl⟩)
     |(guard_hyp M1;have K:=(j.cell (p:=(Q (J (U w)+1) 1 Y)) s).trans m.c1;have z:=ae (sK b off n cap f _ r (H.aa l ly) (Dt (g (by omega))));have x:=ae (pF _ _:aM (λp=>ba f p p) n=-1∨0<=aM (λp=>ba f p p) n);obtain⟨X,hX⟩:∃X,X=aM (λp=>ba f p p) n:=⟨_,rfl⟩)
     |(guard_hyp M2;have K:=(j.cell (p:=(Q (J (U w)+1) 2 Y)) s).trans m.c2;have z:=ae (sM b off n cap f _ (jC (g (by omega))) (by omega) r (H.aa l ly) (oM (g (by omega))) (by have:=kH (jC (g (by omega))) (n:=n) (by omega);omega));have x:=ae (Ds _ _:bw 0 (aD f n)=-1∨0<=bw 0 (aD f n));obtain⟨X,hX⟩:∃X,X=bw 0 (aD f n):=⟨_,rfl⟩)
     |(guard_hyp M3;have K:=(j.cell (p:=(Q (J (U w)+1) 3 Y)) s).trans m.c3;have z:=ae (vO b off n cap f _ (jC (g (by omega))) (by omega) r (H.aa l ly) (oM (g (by omega))));have x:=ae (rL _ _:aY f (aD f n)=-1∨0<=aY f (aD f n));obtain⟨X,hX⟩:∃X,X=aY f (aD f n):=⟨_,rfl⟩)
    rw[<-hX] at z x;have D:=ae hX;clear hX;go_wp2_with fail;refine z.mono ?_;rintro e w2 ⟨rfl,ZN⟩;have G1:=ae (l.trans (ZN.mono l.size));have t:=ae (j.trans (ZN.mono j.size));clear ZN z;by_cases ZR:X=-1
    ·have E:=ae (D.symm.trans ZR)
     have hd:decide (0<=X)=ZA:=by rw[ZR];rfl
     clear ZR;go_wp2;first
      |(guard_hyp M0;exact⟨⟨0+1,by omega,by go_num,λ_=>E,λh=>by omega,λh=>by omega,λh=>by omega,t⟩,by simp[intOf]⟩)
      |(guard_hyp M1;exact⟨⟨1+1,by omega,by go_num,λ_=>g (by omega),λ_=>E,λh=>by omega,λh=>by omega,t⟩,by simp[intOf]⟩)
      |(guard_hyp M2;exact⟨⟨2+1,by omega,by go_num,λ_=>g (by omega),λ_=>F (by omega),λ_=>E,λh=>by omega,t⟩,by simp[intOf]⟩)
      |(guard_hyp M3;exact⟨⟨3+1,by omega,by go_num,λ_=>g (by omega),λ_=>F (by omega),λ_=>ZQ (by omega),λ_=>E,t⟩,by simp[intOf]⟩)
    ·have c:=u.out
     (try rw[nD (by rw[g.out (by omega)];simp)] at c)
     (try rw[nD (by rw[F.out (by omega)];simp)] at c)
     (try rw[nD (by rw[ZQ.out (by omega)];simp)] at c)
     rw[p7 (by rw[<-D.out];exact ZR),<-D.out] at c;simp only[MG] at c;have hge:0<=X:=x.resolve_left ZR;obtain⟨c,o⟩:=c;clear u ZR x;subst c o;go_wp2;go_ret2;exact⟨rfl,G1⟩
  ·obtain rfl:k=4:=by omega
   have c:c1=0/\c2=0:=by have:=u.out;rw[nD (by rw[g.out (by omega)];simp),nD (by rw[F.out (by omega)];simp),nD (by rw[ZQ.out (by omega)];simp),nD (by rw[ZI.out (by omega)];simp)] at this;simp only[MG] at this;omega
   obtain⟨c,o⟩:=c;clear u;subst c o;go_wp2;go_ret2;exact⟨rfl,l⟩
