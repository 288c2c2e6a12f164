import Derived.Test.YthkpcehepgmdgaaGreatDoorTC
import Derived.RangeFuncNested
import Derived.RangeFuncBound
import Derived.RangeFuncCalls
import Derived.RangeFuncLeaves
import Derived.Shelf.Abstract
import Derived.Shelf.RegionOpen
import Derived.OwnWalkIn
import Derived.TacticsInMore
import Derived.LoopNIn
import Derived.LoopIn
import Derived.Sort.QuietIn
import Derived.Sort.BigQuietIn
import Derived.Sort.CutIn
import Derived.Test.YthkpcehepgmdgaaGreatDoorTF
import Derived.Maps.OwnSet
import Derived.Maps.Views
import Derived.StringKeys
set_option maxRecDepth 100000
set_option maxHeartbeats 4000000
set_option linter.unusedSimpArgs false
open Go renaming Addr.mk->Q,Value.slice->Z,Obj.cells->N,IntKind.i64->I,World->G,Value->ZD,TypeId->ZI,Ending.returned->ZG,World.heap->U,World.alloc->A,World.cell?->ZV,World.frozen?->ZW,World.setCell->ZT,Proofs.Tryz.prog->Pg
open Option renaming none->Y,some->T
open Bool renaming false->ZB,true->ZF
open Array renaming size->J
open List renaming length->ZU
namespace Go.Proofs.YthkpcehepgmdgaaGreatDoor.Vp
open Tryz RowKit
variable {n l b off cap n1 L M i m:Nat}{W g:G}{f:Nat->af}{s:Nat->Bool}{ZM:ZI}{P:Program}{R:Ending->G->Prop}{x:Nat × Nat}
theorem Ew{k:Nat}{D:DataW Unit}(b:Maps.IsMap D)(h:∀p,Maps.has D (.string (f p).e.data.toList)=!aN f p k)(d:DataW Unit):∀p,Maps.has (D.put (.string (f k).e.data.toList) d) (.string (f p).e.data.toList)=!aN f p (k+1):=by
 intro p;rw[aN,Bool.not_and,<-h p,Bool.not_not];by_cases e:(f p).e.data.toList=(f k).e.data.toList;{rw[e,Maps.has_put_same b (by simp[WideAt.IsKeyLit])];simp[LV,e]}
 ·rw[Maps.has_put_other (by simpa using e)];have:((f k).e.toList == (f p).e.toList)=ZB:=by simpa[LV] using λh=>e (by rw[h])
  rw[this];simp
theorem r9 (b off n cap:Nat)(f:Nat->af)(w:G)(hn:(n:Int)<=400)(ZO:RowDeed w b off n f)(ZL:∀i,i<n->(f i).e.size<=maxLen):Calls Pg 78 #[.agg #[Z (T (Q b off Y)) n cap]] w λe w'=>e=ZG (.int I (aE (λp=>aN f p p) n))/\Below (J (U w)) w w':=by
 have HF:=ae ZO;have HS:=ae ZL;clear ZO ZL;have O:=ae (((q9 w).alloc ly (N #[Z (T (Q b off Y)) n cap] 25)).alloc (by simp) (.map #[] 0));have B:=ae (World.ownsMap_made (A w (N #[Z (T (Q b off Y)) n cap] 25)) Pg 9 (plainElem (H:=Unit) Pg 3));have hz:J (U (A w (N #[Z (T (Q b off Y)) n cap] 25)))=J (U w)+1:=by simp
 rw[hz] at B;clear hz;obtain⟨r,ZP⟩:∃r,r=aE (λp=>aN f p p) n:=⟨_,rfl⟩
 rw[<-ZP];have R:=ae ZP;clear ZP;have M:=@run_makeMap Pg;go_enter func78,ntmps78;go_wp2;clear M;generalize World.alloc (World.alloc w _) _=W at O B ⊢;obtain⟨o,u⟩:∃o,o=J (U w)+1:=⟨_,rfl⟩
 rw[<-u] at B ⊢;have L:=ae u;clear u;go_loopw [12] (λi wr=>∃(k:Nat) (D:DataW Unit),k<=n/\i=.int I k/\Hid (∀j,j<k->aN f j j=ZF)/\Hid (wr.ownsMap Pg 9 (plainElem (H:=Unit) Pg 3) o k D)/\Hid (∀p,Maps.has D (.string (f p).e.data.toList)=!aN f p k)/\Hid (Below (J (U w)) w wr)) (λi _=>n - (intOf i).toNat);case atStart=>exact⟨0,_,by omega,rfl,λj ZN=>absurd ZN (IT _),B,λp=>rfl,O⟩
 case round =>
  obtain⟨k,D,hk,rfl,ZQ,C,S,h⟩:=hrel;by_cases z:k<n
  ·obtain⟨p0,p1,p2,p3,⟨a0,t,p4,ZJ⟩,⟨a1,s,p5,ZK⟩⟩:=(HF.aa h ly).2 k z;clear ZJ ZK;have ZX:=WideMaps.keyOf_string_mk (P:=Pg) (k:=9) LH (HS k z);have l:=ae ZX;have E:=ae (S k);clear ZX;cases hnew:aN f k k with
   |false =>
    have y:Maps.has D (.string (f k).e.data.toList)=ZF:=by rw[E.out,hnew];rfl
    have HHS:=ae y;obtain rfl:r=k:=by rw[R.out];exact dX z hnew ZQ
    clear hnew;have K:=ae (h.alloc h.size (N #[.string (f k).e,.int I (f k).H,.int I (f k).E,.string (f k).B,Z a0 (f k).l t,Z a1 (f k).f s] 44));go_wp2_with (at_lookup;refine wpList_lookup_own_ok_int _ rfl _ _ 174 rfl 9 3 I (Maps.string_keyed LH) UJ LL (MZ _) o k D rfl (C.alloc _) _ _ rfl l ?_;intro c q x;clear q x);go_ret;exact⟨rfl,K⟩
   |true =>
    have y:Maps.has D (.string (f k).e.data.toList)=ZB:=by rw[E.out,hnew];rfl
    have ZM:=ae hnew;clear hnew;have ZS:(Lit.int I (k:Int)).wf=ZF:=by simp only[Lit.wf,IntKind.min,IntKind.max,IntKind.signed,IntKind.bits,j5,nX,SV];omega
    have V:=ae ZS;clear ZS
    go_wp2_with (first
     |(at_lookup;refine wpList_lookup_own_ok_int _ rfl _ _ 174 rfl 9 3 I (Maps.string_keyed LH) UJ LL (MZ _) o k D rfl (C.alloc _) _ _ rfl l ?_;intro c q x;clear q x)
     |(at_mapUpdate;refine wpList_mapUpdate_own _ rfl _ _ _ 174 rfl 9 3 (Maps.string_keyed LH) UJ _ o k D rfl (C.alloc _) (by unfold maxLen;omega) _ _ _ rfl rfl l _ [] (plainElem_int LL V) ?_;intro w1 m g;have X:=ae m;have K:=ae (bg (h.alloc h.size (N #[.string (f k).e,.int I (f k).H,.int I (f k).E,.string (f k).B,Z a0 (f k).l t,Z a1 (f k).f s] 44)) g (by have:=h.size;simp;omega) (λj e=>by cases e;have:=L.out;omega));clear m g))
    exact⟨⟨k+1,_,by omega,by go_num,λj ZN=>by
     by_cases e:j=k;{subst e;exact ZM}
     ·exact ZQ j (by omega),X,Ew C.isMap S _,K⟩,by simp[intOf];omega⟩
  ·have e:n=k:=by omega
   subst e;obtain rfl:r=-1:=by rw[R.out];exact dn ZQ
   go_wp2;go_ret;exact⟨rfl,h⟩
open Go.Shelf Ca
attribute [local go_sem] TU
structure LSt (w0 W:G)(n1 b off n cap L M l:Nat)(s:Nat->Bool):Prop where
 c0:ZV W (Q L 0 Y)=T (Z (T (Q b off Y)) n cap)
 c1:ZV W (Q L 1 Y)=T (Z (T (Q M 0 Y)) n n)
 c2:ZV W (Q L 2 Y)=T (.func (.yield l) #[] #[])
 row:∀q,q<n->ZV W (Q M q Y)=T (.bool (s q))/\ZW W (Q M q Y)=ZB
 low:Below (J (U w0)) w0 W
 hL:n1<=L/\L<J (U W)
 hM:n1<=M/\M<J (U W)
 ne:L≠M
 hb:J (U w0)<=n1
 tyM:OfTy W M 4
 tyL:OfTy W L 145
theorem LSt.blocks{f:G}(h:LSt g W n1 b off n cap L M l s)(hz:J (U W)<=J (U f))(eL:f.heap[L]?=W.heap[L]?)(i:f.heap[M]?=W.heap[M]?)(m:Below (J (U g)) g f):LSt g f n1 b off n cap L M l s:=by have c:∀o,ZV f (Q L o Y)=ZV W (Q L o Y):=λo=>cq (a:=(Q L o Y)) eL;exact⟨(c 0).trans h.c0,(c 1).trans h.c1,(c 2).trans h.c2,λq j=>⟨(cq (a:=(Q M q Y)) i).trans (h.row q j).1,(LF (a:=(Q M q Y)) i).trans (h.row q j).2⟩,m,⟨h.hL.1,lj h.hL.2 hz⟩,⟨h.hM.1,lj h.hM.2 hz⟩,h.ne,h.hb,h.tyM.eq i,h.tyL.eq eL⟩
theorem LSt.aa{f:G}(h:LSt g W n1 b off n cap L M l s)(hb:Below (J (U W)) W f):LSt g f n1 b off n cap L M l s :=
 h.blocks hb.size (hb.block L h.hL.2) (hb.block M h.hM.2) (h.low.trans (hb.mono h.low.size))
theorem LSt.upd{i:G}(j:ZM≠4/\ZM≠145)(h:LSt g W n1 b off n cap L M l s)(f:Upd2 ZM (J (U g)) n1 W i):LSt g i n1 b off n cap L M l s :=
 h.blocks f.size (f.block L h.hL.2 (.inr ⟨h.hL.1,h.tyL.ne j.2⟩)) (f.block M h.hM.2 (.inr ⟨h.hM.1,h.tyM.ne j.1⟩)) (h.low.trans (f.aa h.low.size))
theorem LSt.set{p:Nat}(h:LSt g W n1 b off n cap L M l s)(hp:p<n):LSt g (ZT W (Q M p Y) (.bool ZF)) n1 b off n cap L M l (put s p):=by
 have c:∀o,ZV (ZT W (Q M p Y) (.bool ZF)) (Q L o Y)=ZV W (Q L o Y):=λo=>sq _ _ _ _ (by simp;exact λe=>absurd e.symm h.ne);refine⟨(c 0).trans h.c0,(c 1).trans h.c1,(c 2).trans h.c2,λq f=>⟨?_,by simpa using(h.row q f).2⟩,h.low.setCell (by have:=h.hM.1;have:=h.hb;show _<=M;omega) _,by simpa using h.hL,by simpa using h.hM,h.ne,h.hb,h.tyM.set _ _,h.tyL.set _ _⟩;by_cases e:q=p;{subst e;rw[AT _ _ _ (by rw[(h.row q f).1];rfl)];simp[put]};{rw[sq _ _ _ _ (by simp),(h.row q f).1];simp[put,e]}
theorem pn{go:Nat->Nat->(Nat->Bool)->(Nat->Bool) × List (Nat × Nat)}{x:af}{d:Nat}(h:i<=m):(lks go x d s i).2 <+: (lks go x d s m).2:=by
 induction m with
 |zero =>
  obtain rfl:i=0:=by omega
  exact TV
 |succ k b =>
  by_cases e:i=k+1;{subst e;exact TV};{refine(b (by omega)).trans ?_;rw[lks];split;{exact UK _ _};{exact TV}}
theorem Ex (hT:ZM≠4/\ZM≠145)(P:G)(n1 b off n cap L M l:Nat)(ZQ:List (Nat × Nat))(f:Nat->af)(ZP Jx:List (Nat × Nat)->G->Prop)(hA:cG f n)(hn:(n:Int)<=400)(hf:RowDeed P b off n f)(hlk:∀p,p<n->(f p).f<=200)
  (hJ:∀s ZX C,ZP s ZX->Itr 4 n1 ZX C->ZP s C) (qr:∀s ZX C,Jx s ZX->Itr 4 n1 ZX C->Jx s C)
  (hY:∀m g (x:Nat × Nat) W,x.1<n->ZP g W->g++[x] <+: ZQ->n1<=J (U W)->YieldAt Fence.wide m Pg l #[.int I (x.1:Int),.int I (x.2:Int)] W λe B =>
   (e=ZG (.bool ZF)/\ZP (g++[x]) B/\Upd2 ZM (J (U P)) n1 W B)∨(e=ZG (.bool ZB)/\Jx (g++[x]) B)) :
  ∀(k p d:Nat) (s:Nat->Bool) (g:List (Nat × Nat)) (W:G) (O:Nat),p<k->p<n->d+p<=1000->LSt P W n1 b off n cap L M l s->s p=ZB->ZP g W->g++(lst f k p d s).2 <+: ZQ ->
   CallsIn Fence.wide O Pg 82 #[.pointer (T (Q L 0 Y)),.int I (p:Int),.int I (d:Int)] W λe B =>(e=ZG (.bool ZF)/\ZP (g++(lst f k p d s).2) B/\LSt P B n1 b off n cap L M l (lst f k p d s).1)∨(e=ZG (.bool ZB)/\∃q,q <+: (lst f k p d s).2/\Jx (g++q) B):=by
 intro k;induction k with
 |zero=>intro p d s g W O h;omega
 |succ k ih =>
  intro p d s g W O hpk H hdp hS hs th hN;have HS:=ae hS;have DS:=ae th;have HN:=ae hN;have Fk:=ae ih;have HY:=ae hY;have HJ:=ae hJ;have HJx:=ae qr;have HA:=ae hA;have HF:=ae hf;obtain⟨_,_,_,_,_,⟨a1,cap1,n7,q5⟩⟩:=hf.2 p H;have p5:=(hS.low.cell (p:=(Q b (off+p*6+5) Y)) hf.1).trans n7;obtain⟨m,hm⟩:∃m,m=(f p).f:=⟨_,rfl⟩
  have hm2:m<=200:=by rw[hm];exact hlk p H
  rw[<-hm] at p5 q5;have HL:=ae q5;have HM:=ae hm;have e0:=hS.c0;obtain⟨K,V⟩:∃K,K=lks (lst f k) (f p) d s:=⟨_,rfl⟩
  have ZO:Hid (lst f (k+1) p d s=(put (K m).1 p,(K m).2++[(p,d)])):=by rw[V,hm];rfl
  have n9:Hid (K 0=(s,[])):=by rw[V];rfl
  have Fd:Hid (∀j,K (j+1)=if ((f p).m j).ask=ZF/\(K j).1 ((f p).m j).L.toNat=ZB then ((lst f k ((f p).m j).L.toNat (d+1) (K j).1).1,(K j).2++(lst f k ((f p).m j).L.toNat (d+1) (K j).1).2) else K j):=λj=>by rw[V];rfl
  have GS:Hid (∀i,i<=m->(K i).2 <+: (K m).2):=λi hi=>by rw[V];exact pn hi
  clear hS th hN ih hY hJ qr hA hf q5 hm hlk n7 V;refine callsIn_of_wp func82 rfl trivial ?_ rfl;simp only[ntmps82,MX,p6,J1,Nat.reduceAdd,Nat.reduceSub,NJ,NK,OH,NN,J2,LQ];gi_wp2;clear e0 p5;gi_loopw [18] (λi wr=>∃j:Nat,j<=m/\i=.int I j/\Hid (LSt P wr n1 b off n cap L M l (K j).1)/\Hid (ZP (g++(K j).2) wr)) (λi _=>m - (intOf i).toNat);case atStart=>exact⟨0,by omega,rfl,by rw[n9.out];exact HS,by rw[n9.out,QU];exact DS⟩
  case round =>
   obtain⟨j,hj,rfl,o,n8⟩:=hrel;by_cases Fm:j<m
   ·obtain⟨lb,lo,rfl,ex⟩:=(HL.aa o.low ly).resolve_left (by omega);obtain⟨d0,d1,d2,d3⟩:=ex.2 j Fm;clear ex;have ZJ:=Fd.out j;have aq:=HA.out p H j (by have:=HM.out;omega);generalize (f p).m j=x at d0 d1 d2 d3 ZJ aq;have bt:=ae ZJ;clear ZJ;have ZS:=ae (o.aa (br.alloc ly (N #[.string x.e,.bool x.ask,.bool x.has,.int I x.L] 68)));have S:=ae (HJ _ _ _ n8 (Itr.q ((q9 wr).alloc ly (N #[.string x.e,.bool x.ask,.bool x.has,.int I x.L] 68)) ly (by have:=o.hL;omega)));have e1:ZV (A wr (N #[.string x.e,.bool x.ask,.bool x.has,.int I x.L] 68)) (Q (J (U wr)) 1 Y)=T (.bool x.ask):=by simp
    have e3:ZV (A wr (N #[.string x.e,.bool x.ask,.bool x.has,.int I x.L] 68)) (Q (J (U wr)) 3 Y)=T (.int I x.L):=by simp
    have ur:=ae aq;clear aq;gi_upto_region 4 with fail;clear d0 d1 d2 d3;generalize World.alloc wr _=E at ZS S e1 e3 ⊢;generalize (J (U wr))=X at e1 e3 ⊢;cases hask:x.ask with
    |false =>
     have t:K (j+1)=K j:=by rw[bt.out,eT (by rw[hask];simp)]
     have u:=ae t;clear t;rw[hask] at e1;have DE:∀f,Fence.wide.fn f=True:=λ_=>rfl;gi_quiet (fail);have R:=ae (ZS.aa (BG (q9 E) nq));have ZK:=ae (HJ _ _ _ S (Itr.q (BG (q9 E) nq) ly (by have:=ZS.hL;omega)));gi_wp2;exact⟨⟨j+1,by omega,by go_num,by rw[u.out];exact R,by rw[u.out];exact ZK⟩,by simp[intOf];omega⟩
    |true =>
     obtain⟨q,hq⟩:∃q:Nat,x.L=(q:Int):=⟨x.L.toNat,by have:=(ur hask).2;omega⟩
     have hqp:q<p:=by have:=(ur hask).1;rw[hq] at this;simpa using this
     rw[hq] at e3;rw[hask] at e1;have f1:=ZS.c1;obtain⟨f2,_⟩:=ZS.row q (by omega);have hq0:(0:Int)<=q:=by omega
     have hqn:(q:Int)<n:=by omega
     have DE:∀f,Fence.wide.fn f=True:=λ_=>rfl;cases hl:(K j).1 q with
     |true =>
      have t:K (j+1)=K j:=by rw[bt.out,eT (by rw[hq];simp[hl])]
      have u:=ae t;clear t;rw[hl] at f2;gi_quiet (fail);have R:=ae (ZS.aa (BG (q9 E) nq));have ZK:=ae (HJ _ _ _ S (Itr.q (BG (q9 E) nq) ly (by have:=ZS.hL;omega)));gi_wp2;exact⟨⟨j+1,by omega,by go_num,by rw[u.out];exact R,by rw[u.out];exact ZK⟩,by simp[intOf];omega⟩
     |false =>
      have t:K (j+1)=((lst f k q (d+1) (K j).1).1,(K j).2++(lst f k q (d+1) (K j).1).2):=by rw[bt.out,hU ⟨hask,by rw[hq];simpa using hl⟩,hq];simp
      have u:=ae t;have fd:=GS.out (j+1) (by omega);rw[t] at fd;have ro:=ae fd;have la:((d+1:Nat):Int)=(d:Int)+1:=by omega
      have HC:Hid (∀W2 O,LSt P W2 n1 b off n cap L M l (K j).1->ZP (g++(K j).2) W2->CallsIn Fence.wide O Pg 82 #[.pointer (T (Q L 0 Y)),.int I (q:Int),.int I ((d:Int)+1)] W2 λe B =>
        ∃r:Bool,e=ZG (.bool r)/\Hid ((r=ZF/\ZP (g++(K (j+1)).2) B/\LSt P B n1 b off n cap L M l (K (j+1)).1)∨(r=ZB/\∃q,q <+: (K m).2++[(p,d)]/\Jx (g++q) B))):=by
       intro W2 O h1 h2;have ZN:(g++(K j).2)++(lst f k q (d+1) (K j).1).2 <+: ZQ:=by have D:=HN.out;rw[ZO.out] at D;obtain⟨z,hz⟩:=D;obtain⟨y,ZL⟩:=ro.out;exact⟨y++[(p,d)]++z,by rw[<-hz];simp only[];rw[<-ZL];simp⟩
       have h:=Fk.out q (d+1) (K j).1 (g++(K j).2) W2 O (by omega) (by omega) (by omega) h1 hl h2 ZN;rw[la] at h;refine h.mono λe B h=>?_;rcases h with ⟨he,hj,hs⟩|⟨he,q',Fn,hx⟩
       ·exact⟨ZF,he,.inl ⟨rfl,by rw[u.out,<-KK];exact hj,by rw[u.out];exact hs⟩⟩
       ·refine⟨ZB,he,.inr ⟨rfl,(K j).2++q',?_,by rw[<-KK];exact hx⟩⟩
        obtain⟨z,hz⟩:=Fn;obtain⟨y,ZL⟩:=ro.out;exact⟨z++y++[(p,d)],by rw[<-ZL,<-hz];simp⟩
      have Bk:=ae (ZS.aa ((q9 E).drew));have At:=ae (HJ _ _ _ S (Itr.q (q9 E).drew ly (by have:=ZS.hL;omega)));have hwr:IntKind.i64.wrap ((d:Int)+1)=(d:Int)+1:=by rw[nL];omega
      clear t fd;rw[hl] at f2;gi_region_with ((try refine⟨λh=>(by cases h),?_⟩);gi_at_call 82;refine(HC _ _ ?_ ?_).mono ?_;(first|exact Bk|exact ZS);(first|exact At|exact S);rintro e W3 ⟨r,rfl,H3⟩);all_goals
       cases r with
       |true =>have D:=H3.resolve_right (λh=>by cases h.1);have S3:=ae D.2.2;have J3:=ae D.2.1;clear D H3;gi_wp2;exact⟨⟨j+1,by omega,by go_num,S3,J3⟩,by simp[intOf];omega⟩
       |false =>have D:=H3.resolve_left (λh=>by cases h.1);have X3:=ae D.2;clear D H3;gi_wp2;go_ret;rw[ZO.out];exact .inr ⟨rfl,X3⟩
   ·have e:m=j:=by omega
    subst e;have R:=ae (o.set H);have ZK:=ae (HJ _ _ _ n8 (Itr.setCell wr (p:=(Q M p Y)) o.hM.1 o.tyM (.bool ZF)));have ZN:(g++(K m).2)++[(p,d)] <+: ZQ:=by have D:=HN.out;rw[ZO.out] at D;simpa using D
    have DQ:=HY.out (O - 1) (g++(K m).2) (p,d) _ H ZK ZN (by have:=o.hL;simp;omega);obtain⟨fn,tmps,assign,body,ZL,hR⟩:=DQ;dsimp only at ZL;have HR:=ae hR;clear hR;have g1:=o.c1;obtain⟨g3,g4⟩:=o.row p H;have g2:=R.c2;have hp0:(0:Int)<=p:=by omega
    have hpn':(p:Int)<n:=by omega
    gi_wp2;refine⟨λh=>(by cases h),HR.mono ?_⟩;rintro e W3 (⟨rfl,ld,ph⟩|⟨rfl,sm⟩);{have J3:=ae ld;have S3:=ae (R.upd hT ph);clear ld ph;gi_wp2;go_ret;rw[ZO.out];exact .inl ⟨rfl,by rw[<-KK];exact J3,S3⟩};{have X3:=ae sm;clear sm;gi_wp2;go_ret;rw[ZO.out];exact .inr ⟨rfl,_,TV,by rw[<-KK];exact X3⟩}
attribute [local go_sem] TU
theorem Bg{F:Fence}(g:F.depth=Y){f:FuncId}{tmps:Array ZD}{assign body:Code}{w:G}
  (h:RoundIn F m P l f tmps assign body w R):RoundIn F b P l f tmps assign body w R:=⟨h.1,λc i _=>h.2 c i (λd h=>by rw[g] at h;cases h)⟩
theorem Bh{F:Fence}(g:F.depth=Y)(b:Nat){args:Array ZD}(h:YieldAt F m P l args W R):YieldAt F b P l args W R:=by obtain⟨fn,tmps,assign,body,f,hR⟩:=h;exact⟨fn,tmps,assign,body,f,Bg g hR⟩
theorem Bi:(Pg.info? 4).map (λi=>(i.zero,i.size,i.bytes))=T (T (.bool ZB),1,1):=by kernel_rfl
def bA (n:Nat):Array ZD:=madeCells (Value.bool ZB).cells n
theorem tv (n:Nat)(hn:n<=1048576)(w:G):(Instr.makeSlice 63 (.int I (n:Int)) (.int I (n:Int))).run Pg w=.ok (Z (T (Q (J (U w)) 0 Y)) n n) (w.alloc (N (bA n) 4)):=by obtain⟨i,hi,hz⟩:=MP.1 Bi;simp only[KJ] at hz;obtain⟨h1,h2,b⟩:=hz;have h:=run_make (P:=Pg) w 63 4 i _ underlying63 hi h1 I I n n (by omega) (TF _) (by rw[b];omega) (by omega);rw[h2] at h;simpa[bA] using h
theorem tA (n q:Nat)(h:q<n):(bA n)[q]?=T (.bool ZB):=by unfold bA madeCells;simp[Value.cells,h,Nat.mod_one]
theorem pq (W:G)(n q:Nat)(h:q<n):(W.alloc (N (bA n) 4)).cell? (Q (J (U W)) q Y)=T (.bool ZB)/\(W.alloc (N (bA n) 4)).frozen? (Q (J (U W)) q Y)=ZB:=by
 have e:=nD W (N (bA n) 4);refine⟨?_,?_⟩;{rw[cell_of_row _ _ _ _ _ _ e];exact tA n q h};{unfold World.frozen?;rw[e];simp}
theorem Bj (f:Below (J (U g)) g W):LSt g ((W.alloc (N (bA n) 4)).alloc (N #[Z (T (Q b off Y)) n cap,Z (T (Q (J (U W)) 0 Y)) n n,.func (.yield l) #[] #[]] 145)).drew (J (U W)) b off n cap (J (U W)+1) (J (U W)) l (λ_=>ZB):=by
 have hz:(W.alloc (N (bA n) 4)).heap.size=J (U W)+1:=by simp
 have D:Below (J (U W)+1) (W.alloc (N (bA n) 4)) ((W.alloc (N (bA n) 4)).alloc (N #[Z (T (Q b off Y)) n cap,Z (T (Q (J (U W)) 0 Y)) n n,.func (.yield l) #[] #[]] 145)).drew:=(br.alloc (by omega) _).drew;refine⟨?_,?_,?_,λq i=>?_,((f.alloc f.size _).alloc (by simp;have:=f.size;omega) _).drew,by simp,by simp;omega,by omega,f.size,?_,?_⟩;{simp};{simp};{simp};{exact⟨(D.cell (p:=(Q (J (U W)) q Y)) (gM _)).trans (pq W n q i).1,(D.frozen (p:=(Q (J (U W)) q Y)) (gM _)).trans (pq W n q i).2⟩};{exact(OfTy.new W _ _).eq (D.block _ (gM _))};{have h:=OfTy.new (W.alloc (N (bA n) 4)) #[Z (T (Q b off Y)) n cap,Z (T (Q (J (U W)) 0 Y)) n n,.func (.yield l) #[] #[]] 145;rw[hz] at h;exact h.eq rfl}
theorem Bl (f:Below (J (U g)) g W):LSt g ((A W (N #[Z (T (Q b off Y)) n cap,Z (T (Q (J (U W)+1) 0 Y)) n n,.func (.yield l) #[] #[]] 145)).alloc (N (bA n) 4)).drew (J (U W)) b off n cap (J (U W)) (J (U W)+1) l (λ_=>ZB):=by
 have hz:J (U (A W (N #[Z (T (Q b off Y)) n cap,Z (T (Q (J (U W)+1) 0 Y)) n n,.func (.yield l) #[] #[]] 145)))=J (U W)+1:=by simp
 have D:Below (J (U W)+1) (A W (N #[Z (T (Q b off Y)) n cap,Z (T (Q (J (U W)+1) 0 Y)) n n,.func (.yield l) #[] #[]] 145)) ((A W (N #[Z (T (Q b off Y)) n cap,Z (T (Q (J (U W)+1) 0 Y)) n n,.func (.yield l) #[] #[]] 145)).alloc (N (bA n) 4)).drew:=(br.alloc (by omega) _).drew;refine⟨(D.cell (p:=(Q (J (U W)) 0 Y)) (gM _)).trans (by simp),(D.cell (p:=(Q (J (U W)) 1 Y)) (gM _)).trans (by simp),(D.cell (p:=(Q (J (U W)) 2 Y)) (gM _)).trans (by simp),λq i=>?_,((f.alloc f.size _).alloc (by simp;have:=f.size;omega) _).drew,by simp;omega,by simp,by omega,f.size,?_,?_⟩;{have h:=pq (A W (N #[Z (T (Q b off Y)) n cap,Z (T (Q (J (U W)+1) 0 Y)) n n,.func (.yield l) #[] #[]] 145)) n q i;rw[hz] at h;exact h};{have h:=OfTy.new (A W (N #[Z (T (Q b off Y)) n cap,Z (T (Q (J (U W)+1) 0 Y)) n n,.func (.yield l) #[] #[]] 145)) (bA n) 4;rw[hz] at h;exact h.eq rfl};{exact(OfTy.new W _ _).eq (D.block _ (gM _))}
theorem kZ (v:ZD)(w:G)(b:Nat):CallsIn Fence.wide b Pg 46 #[.agg #[v]] w λe f=>e=ZG (.func (.func 81) #[] #[.pointer (T (Q (J (U w)) 0 Y))])/\f=A w (N #[v] 25):=by refine callsIn_of_wp func46 rfl trivial ?_ rfl;simp only[ntmps46,MX,p6,J1,Nat.reduceAdd,Nat.reduceSub,NJ,NK,OH,NN,J2,LQ];gi_wp2;go_ret;exact⟨rfl,rfl⟩
theorem mo (hT:ZM≠4/\ZM≠145)(i:G)(b off n cap u C:Nat)(f:Nat->af)(w:G)(hA:cG f n)(hn1:1<=n)(hn:(n:Int)<=400)(hf:RowDeed i b off n f)(hlk:∀p,p<n->(f p).f<=200)(s:Below (J (U i)) i w)(ZQ:ZV w (Q u 0 Y)=T (Z (T (Q b off Y)) n cap))(ZX:u<J (U w)):SeqT2 ZM 4 Fence.wide C Pg 81 #[.pointer (T (Q u 0 Y))] (λx:Nat × Nat=>#[Value.int I (x.1:Int),Value.int I (x.2:Int)]) (λg x=>x.1<n/\g++[x] <+: aw f n) (J (U i)) (λo=>o=aw f n) (λg=>g <+: aw f n) w:=by
 intro l ZP S W D hJ K ZL B;have V:=Ex hT i (J (U W)) b off n cap;have ZO:=ae V;clear V;have ZK:=(D.cell (p:=(Q u 0 Y)) ZX).trans ZQ;have bt:=λw=>tv n (by omega) w;have hwb:IntKind.i64.wrap ((n:Int) - 1)=(n:Int) - 1:=by rw[nL];omega
 have R:=ae hJ;have E:=ae K;have HY:=ae ZL;have H0:=ae B;have ZJ:=ae hA;have HF:=ae hf;have ZS:=ae hlk;have j:=ae (s.trans (D.mono s.size));have aq:u<J (U W):=lj ZX D.size;clear hJ K ZL B hA hf hlk s D ZQ ZX;refine callsIn_of_wp func81 rfl trivial ?_ rfl;simp only[ntmps81,MX,p6,J1,Nat.reduceAdd,Nat.reduceSub,NJ,NK,OH,NN,J2,LQ];have H:∀L M y,LSt i y (J (U W)) b off n cap L M l (λ_=>ZB)->Below (J (U W)) W y->CallsIn Fence.wide (C - 1) Pg 82 #[.pointer (T (Q L 0 Y)),.int I ((n:Int) - 1),.int I 0] y λe t =>
   ∃r:Bool,e=ZG (.bool r)/\Hid ((∃o,o=aw f n/\ZP o t)∨(∃g,g <+: aw f n/\S g t)):=by
  intro L M y ZN ex;have h:=ZO.out L M l (aw f n) f ZP S ZJ hn HF ZS R E (λm g x W1 B h1 h2 h3=>Bh rfl m (HY g x W1 ⟨B,h2⟩ h1 h3)) n (n - 1) 0 (λ_=>ZB) [] y (C - 1) (by omega) (by omega) (by omega) ZN rfl (R _ _ _ H0 (Itr.q ex ly  ly)) (by simp[aw]);rw[show((n - 1:Nat):Int)=(n:Int) - 1 by omega] at h;refine h.mono λe t h=>?_;rcases h with ⟨O,hj,_⟩|⟨O,q,hq,hx⟩
  ·exact⟨ZF,O,.inl ⟨_,rfl,by simpa[aw] using hj⟩⟩
  ·exact⟨ZB,O,.inr ⟨q,hq,by simpa using hx⟩⟩
 have z:=ae H;have D1:=ae (((q9 W).alloc ly (N (bA n) 4)).alloc (by simp) (N #[Z (T (Q b off Y)) n cap,Z (T (Q (J (U W)) 0 Y)) n n,.func (.yield l) #[] #[]] 145)).drew;have D2:=ae (((q9 W).alloc ly (N #[Z (T (Q b off Y)) n cap,Z (T (Q (J (U W)+1) 0 Y)) n n,.func (.yield l) #[] #[]] 145)).alloc (by simp) (N (bA n) 4)).drew;have hfw:∀f,Fence.wide.fn f=True:=λ_=>rfl;clear H ZO R E HY H0 ZJ HF ZS;gi_upto_region 0 with fail;gi_cut [3] from 4 (λs3 wx=>∃L,s3=.pointer (T (Q L 0 Y))/\Hid (∃M,LSt i wx (J (U W)) b off n cap L M l (λ_=>ZB))/\Hid (Below (J (U W)) W wx));case first =>
  have hsf:=λ(w:G) (a:Addr) (m:Mode)=>run_store Pg w a (.func (.yield l) #[] #[]) m rfl;gi_region_with fail;all_goals
   gi_wp2_with fail;gi_meet;first
    |exact⟨J (U W)+1,rfl,⟨J (U W),Bj j⟩,D1⟩
    |exact⟨J (U W),rfl,⟨J (U W)+1,Bl j⟩,D2⟩
 case rest =>
 obtain⟨L,rfl,X,P⟩:=hcut;have hB1:=(P.cell (p:=(Q u 0 Y)) aq).trans ZK;have HC:Hid (CallsIn Fence.wide (C - 1) Pg 82 #[.pointer (T (Q L 0 Y)),.int I ((n:Int) - 1),.int I 0] wc λe t=>∃r:Bool,e=ZG (.bool r)/\Hid ((∃o,o=aw f n/\ZP o t)∨(∃g,g <+: aw f n/\S g t))):=by obtain⟨M,ZN⟩:=X.out;exact z L M wc ZN P
 clear z X bt P j D1 D2 ZK;gi_wp2_with ((try refine⟨λh=>(by cases h),?_⟩);gi_at_call 82;refine HC.mono ?_;rintro e W3 ⟨r,rfl,H3⟩);go_end0;exact⟨⟨_,rfl⟩,H3⟩
theorem nN (g:G)(b off n cap i m:Nat)(f:Nat->af)(w:G)(t:cG f n)(hn1:1<=n)(hn:(n:Int)<=400)(s:RowDeed g b off n f)(hlk:∀p,p<n->(f p).f<=200)(l:Below (J (U g)) g w)(q:ZV w (Q i 0 Y)=T (Z (T (Q b off Y)) n cap))(o:i<J (U w)):AX Fence.wide m Pg 81 #[.pointer (T (Q i 0 Y))] (λx:Nat × Nat=>#[Value.int I (x.1:Int),Value.int I (x.2:Int)]) (λx=>x.1<n) (J (U g)) (λr=>r=aw f n) (λj=>j <+: aw f n) (aw f n).length w :=
 (mo (ZM:=44) ⟨by decide,by decide⟩ g b off n cap i m f w t hn1 hn s hlk l q o).plain λj x h=>⟨h.1,by have:=h.2.length_le;simp at this;omega⟩
attribute [local go_sem] TU
theorem pt{b:List (Nat × Nat)}(h:bu i b=-1):bu i (b++[x])=if x.1=i+ZU b then -1 else ((i+ZU b:Nat):Int):=by
 induction b generalizing i with
 |nil=>simp[bu]
 |cons y f g =>
  simp only[bu,LQ] at h ⊢;split at h
  ·rename_i e;rw[hU e,g h];simp only[p6];have:i+1+ZU f=i+(ZU f+1):=by omega
   rw[this]
  {omega}
theorem tB{b f:List (Nat × Nat)}(j:b <+: f)(h:bu i b≠-1):bu i f=bu i b:=by
 induction b generalizing i f with
 |nil=>exact absurd rfl h
 |cons y ys g =>
  obtain⟨t,rfl⟩:=j;simp only[bu,LQ] at h ⊢;split;{rename_i e;rw[hU e] at h;exact g (UK _ _) h};{rfl}
theorem vj{b:List (Nat × Nat)}(h:aR f b=-1):aR f (b++[x])=if (f x.1).H=3/\60<=x.2 then (x.1:Int) else -1:=by
 induction b with
 |nil=>simp[aR]
 |cons y ys g =>
  simp only[aR,LQ] at h ⊢;split at h;{omega};{rename_i e;rw[eT e,g h]}
theorem sd{b g:List (Nat × Nat)}(j:b <+: g)(h:aR f b≠-1):aR f g=aR f b:=by
 induction b generalizing g with
 |nil=>exact absurd rfl h
 |cons y ys i =>
  obtain⟨t,rfl⟩:=j;simp only[aR,LQ] at h ⊢;split;{rfl};{rename_i e;rw[eT e] at h;exact i (UK _ _) h}
structure GL (W:G)(h:Nat)(v:ZD):Prop where
 size:J (U W)=h+4
 r:ZV W (Q (h+1) 0 Y)=T (.int I 0)/\ZW W (Q (h+1) 0 Y)=ZB
 t:ZV W (Q (h+1+1) 0 Y)=T (.int I 0)/\ZW W (Q (h+1+1) 0 Y)=ZB
 a:ZV W (Q (h+1+1+1) 0 Y)=T v
 a0:ZV W (Q h 0 Y)=T v
theorem xM (w:G)(v:ZD)(t u:ZI):GL (A (A (A (A w (N #[v] t)) (N #[.int I 0] u)) (N #[.int I 0] u)) (N #[v] t)) (J (U w)) v:=by
 have b:J (U (A w (N #[v] t)))=J (U w)+1:=by simp
 have f:J (U (A (A w (N #[v] t)) (N #[.int I 0] u)))=J (U w)+1+1:=by simp
 have g:J (U (A (A (A w (N #[v] t)) (N #[.int I 0] u)) (N #[.int I 0] u)))=J (U w)+1+1+1:=by simp
 have j:Below (J (U w)+1) (A w (N #[v] t)) (A (A (A (A w (N #[v] t)) (N #[.int I 0] u)) (N #[.int I 0] u)) (N #[v] t)):=((br.alloc (by omega) _).alloc (by omega) _).alloc (by omega) _;have h:Below (J (U w)+1+1) (A (A w (N #[v] t)) (N #[.int I 0] u)) (A (A (A (A w (N #[v] t)) (N #[.int I 0] u)) (N #[.int I 0] u)) (N #[v] t)):=(br.alloc (by omega) _).alloc (by omega) _;have i:Below (J (U w)+1+1+1) (A (A (A w (N #[v] t)) (N #[.int I 0] u)) (N #[.int I 0] u)) (A (A (A (A w (N #[v] t)) (N #[.int I 0] u)) (N #[.int I 0] u)) (N #[v] t)):=br.alloc (by omega) _;refine⟨by simp,⟨?_,?_⟩,⟨?_,?_⟩,?_,(j.cell (p:=(Q (J (U w)) 0 Y)) (gM _)).trans (by simp)⟩;{refine(h.cell (p:=(Q (J (U w)+1) 0 Y)) (gM _)).trans ?_;rw[<-b];clear j h i b f g;generalize A w (N #[v] t)=W;simp};{refine(h.frozen (p:=(Q (J (U w)+1) 0 Y)) (gM _)).trans ?_;rw[<-b];clear j h i b f g;generalize A w (N #[v] t)=W;simp};{refine(i.cell (p:=(Q (J (U w)+1+1) 0 Y)) (gM _)).trans ?_;rw[<-f];clear j h i b f g;generalize A (A w (N #[v] t)) (N #[.int I 0] u)=W;simp};{refine(i.frozen (p:=(Q (J (U w)+1+1) 0 Y)) (gM _)).trans ?_;rw[<-f];clear j h i b f g;generalize A (A w (N #[v] t)) (N #[.int I 0] u)=W;simp};{rw[<-g];clear j h i b f g;generalize A (A (A w (N #[v] t)) (N #[.int I 0] u)) (N #[.int I 0] u)=W;simp}
theorem se (b off n cap:Nat)(f:Nat->af)(w:G)(X:cG f n)(hn1:1<=n)(hn:(n:Int)<=400)(ZQ:RowDeed w b off n f)(hlk:∀p,p<n->(f p).f<=200)(hlen:(aw f n).length<=400):Calls Pg 79 #[.agg #[Z (T (Q b off Y)) n cap]] w λe w'=>e=ZG (.int I (bu 0 (aw f n)))/\Below (J (U w)) w w':=by
 refine(callsIn_wide (n:=3)).1 ?_;have HF:=ae ZQ;have HA:=ae X;have ZJ:=ae hlk;clear ZQ X hlk;have L:=((((q9 w).alloc ly (N #[Z (T (Q b off Y)) n cap] 25)).alloc (by simp) (N #[.int I 0] 3)).alloc (by simp;omega) (N #[.int I 0] 3)).alloc (by simp;omega) (N #[Z (T (Q b off Y)) n cap] 25);have R:=ae L;clear L;have H:=ae (xM w (Z (T (Q b off Y)) n cap) 25 3);refine callsIn_of_wp_marks func79 rfl trivial ?_ rfl;simp only[ntmps79,MX,p6,J1,Nat.reduceAdd,Nat.reduceSub,NJ,NK,OH,NN,J2,LQ];gi_wp2_with (refine⟨trivial,?_⟩;gi_at_call 46;refine(kZ _ _ _).mono ?_;rintro e w' ⟨rfl,rfl⟩);generalize World.alloc (World.alloc (World.alloc (World.alloc w _) _) _) _=W at R H ⊢;have hsz:=H.size;obtain⟨ZN,M⟩:=H.r;obtain⟨ZO,ZP⟩:=H.t;refine ji (F:=Fence.wide) rfl (by omega) (gf:=81) (lb:=#[.pointer (T (Q (J (U w)+1+1+1) 0 Y))]) rfl trivial (enters_of func81 (by kernel_rfl) rfl) (base:=J (U w)) (by omega)
  (nN w b off n cap (J (U w)+1+1+1) (3 - 1) f W HA hn1 hn HF ZJ R H.a (by omega)) br (λ_=>rfl)
  (λg m=>ZV m (Q (J (U w)+1+1) 0 Y)=T (.int I (ZU g:Int))/\ZW m (Q (J (U w)+1+1) 0 Y)=ZB/\ZV m (Q (J (U w)+1) 0 Y)=T (.int I 0)/\ZW m (Q (J (U w)+1) 0 Y)=ZB/\Hid (bu 0 g=-1)/\Hid (Below (J (U w)) w m))
  (λc g m=>c=.ret/\ZV m (Q (J (U w)+1) 0 Y)=T (.int I (bu 0 g))/\Hid (bu 0 g≠-1)/\Hid (Below (J (U w)) w m))
  (λs ZX B h j=>⟨(j.cell (p:=(Q (J (U w)+1+1) 0 Y)) (by show (J (U w))+1+1<J (U W);omega)).trans h.1,(j.frozen (p:=(Q (J (U w)+1+1) 0 Y)) (by show (J (U w))+1+1<J (U W);omega)).trans h.2.1,(j.cell (p:=(Q (J (U w)+1) 0 Y)) (by show (J (U w))+1<J (U W);omega)).trans h.2.2.1,(j.frozen (p:=(Q (J (U w)+1) 0 Y)) (by show (J (U w))+1<J (U W);omega)).trans h.2.2.2.1,h.2.2.2.2.1,h.2.2.2.2.2.trans (j.mono (by omega))⟩)
  (λc s ZX B h j=>⟨h.1,(j.cell (p:=(Q (J (U w)+1) 0 Y)) (by show (J (U w))+1<J (U W);omega)).trans h.2.1,h.2.2.1,h.2.2.2.trans (j.mono (by omega))⟩)
  ⟨ZO,ZP,ZN,M,rfl,R⟩
  (λx=>{ tmps:=#[.agg #[Z (T (Q b off Y)) n cap],.pointer (T (Q (J (U w)) 0 Y)),.pointer (T (Q (J (U w)+1) 0 Y)),.pointer (T (Q (J (U w)+1+1) 0 Y)),.int I (x.1:Int),.agg #[Z (T (Q b off Y)) n cap],.func (.func 81) #[] #[.pointer (T (Q (J (U w)+1+1+1) 0 Y))],.int I (x.1:Int),.int I (x.2:Int),undef,undef,undef,undef,undef,undef],defers:=[] }) ?assign ?body ?done ?stop
 case assign =>intro l x W K y;gi_wp2;exact y
 case body =>
  rintro l g x i _ ⟨hc,ZQ,u,O,z,q⟩ hlt hz;clear ZN M ZO ZP;have hpl:(ZU g:Int)<=1048576:=by omega
  by_cases hx:(x.1:Int)=(ZU g:Int)
  ·have D:bu 0 (g++[x])=-1:=by rw[pt z.out,hU (by omega)]
   have o:=ae D;clear D;have ZM:=ae (Upd.setCell (P:=λk=>J (U w)<=k/\k<J (U W)) i (p:=(Q (J (U w)+1+1) 0 Y)) ⟨by show _<=_+1+1;omega,by show _+1+1<_;omega⟩ (.int I ((ZU g:Int)+1)));have E:=ae (q.setCell (p:=(Q (J (U w)+1+1) 0 Y)) (by show _<=_+1+1;omega) (.int I ((ZU g:Int)+1)));have c1:ZV (ZT i (Q (J (U w)+1+1) 0 Y) (.int I ((ZU g:Int)+1))) (Q (J (U w)+1+1) 0 Y)=T (.int I ((g++[x]).length:Int)):=by rw[AT _ _ _ (by rw[hc];rfl)];simp
   have c2:ZV (ZT i (Q (J (U w)+1+1) 0 Y) (.int I ((ZU g:Int)+1))) (Q (J (U w)+1) 0 Y)=T (.int I 0):=by rw[sq _ _ _ _ (by simp)];exact u
   have C:=ae c1;have C2:=ae c2;clear c1 c2;gi_wp2;exact⟨ZM,C,by simpa using ZQ,C2,by simpa using O,o,E⟩
  ·have D:bu 0 (g++[x])=(ZU g:Int):=by rw[pt z.out,eT (by omega)];simp
   have o:=ae D;clear D;have ZM:=ae (Upd.setCell (P:=λk=>J (U w)<=k/\k<J (U W)) i (p:=(Q (J (U w)+1) 0 Y)) ⟨by show _<=_+1;omega,by show _+1<_;omega⟩ (.int I (ZU g:Int)));have E:=ae (q.setCell (p:=(Q (J (U w)+1) 0 Y)) (by show _<=_+1;omega) (.int I (ZU g:Int)));have C:=ae (AT i (Q (J (U w)+1) 0 Y) (.int I (ZU g:Int)) (by rw[u];rfl));gi_wp2;exact⟨ZM,rfl,by rw[o.out];exact C,by show _≠_;rw[o.out];omega,E⟩
 case done =>rintro ZK ys i S rfl ⟨_,_,u,O,z,q⟩ y;have V:=ae ((KeepsOthers.setCell i (Q (J (U w)+1) 0 Y) (.int I (-1))).same ZK _ y rfl);have E:=ae (q.setCell (p:=(Q (J (U w)+1) 0 Y)) (by show _<=_+1;omega) (.int I (-1)));have C:=ae (AT i (Q (J (U w)+1) 0 Y) (.int I (-1)) (by rw[u];rfl));gi_wp2;refine⟨by simp,.inl ⟨_,_,rfl,run_takeDeferred V,?_⟩⟩;have ZS:=dq (n:=J (U W)) (ZT i (Q (J (U w)+1) 0 Y) (.int I (-1))) S (A9.1 V).1 (.deferred Y);have c:=(ZS.cell (p:=(Q (J (U w)+1) 0 Y)) (by show (J (U w))+1<J (U W);omega)).trans C;exact⟨.int I (-1),by simp[results,results79,go_sem,c],by rw[z.out],E.trans (ZS.mono (by omega))⟩
 case stop =>rintro ZK c g i S ZL ⟨rfl,u,z,q⟩ y;gi_wp2;refine⟨by simp,.inl ⟨_,_,rfl,run_takeDeferred y,?_⟩⟩;have ZS:=dq (n:=J (U W)) i S (A9.1 y).1 (.deferred Y);have c:=(ZS.cell (p:=(Q (J (U w)+1) 0 Y)) (by show (J (U w))+1<J (U W);omega)).trans u;exact⟨.int I (bu 0 g),by simp[results,results79,go_sem,c],by rw[tB ZL z.out],q.trans (ZS.mono (by omega))⟩
structure GM (W:G)(h:Nat)(v:ZD):Prop where
 size:J (U W)=h+3
 r:ZV W (Q (h+1) 0 Y)=T (.int I 0)/\ZW W (Q (h+1) 0 Y)=ZB
 a:ZV W (Q (h+1+1) 0 Y)=T v
 a0:ZV W (Q h 0 Y)=T v
theorem xN (w:G)(v:ZD)(t u:ZI):GM (A (A (A w (N #[v] t)) (N #[.int I 0] u)) (N #[v] t)) (J (U w)) v:=by
 have b:J (U (A w (N #[v] t)))=J (U w)+1:=by simp
 have f:J (U (A (A w (N #[v] t)) (N #[.int I 0] u)))=J (U w)+1+1:=by simp
 have h:Below (J (U w)+1) (A w (N #[v] t)) (A (A (A w (N #[v] t)) (N #[.int I 0] u)) (N #[v] t)):=(br.alloc (by omega) _).alloc (by omega) _;have g:Below (J (U w)+1+1) (A (A w (N #[v] t)) (N #[.int I 0] u)) (A (A (A w (N #[v] t)) (N #[.int I 0] u)) (N #[v] t)):=br.alloc (by omega) _;refine⟨by simp,⟨?_,?_⟩,?_,(h.cell (p:=(Q (J (U w)) 0 Y)) (gM _)).trans (by simp)⟩;{refine(g.cell (p:=(Q (J (U w)+1) 0 Y)) (gM _)).trans ?_;rw[<-b];clear h g b f;generalize A w (N #[v] t)=W;simp};{refine(g.frozen (p:=(Q (J (U w)+1) 0 Y)) (gM _)).trans ?_;rw[<-b];clear h g b f;generalize A w (N #[v] t)=W;simp};{rw[<-f];clear h g b f;generalize A (A w (N #[v] t)) (N #[.int I 0] u)=W;simp}
theorem vl (b off n cap:Nat)(f:Nat->af)(w:G)(ZL:cG f n)(hn1:1<=n)(hn:(n:Int)<=400)(ZM:RowDeed w b off n f)(hlk:∀p,p<n->(f p).f<=200):Calls Pg 80 #[.agg #[Z (T (Q b off Y)) n cap]] w λe w'=>e=ZG (.int I (aR f (aw f n)))/\Below (J (U w)) w w':=by
 refine(callsIn_wide (n:=3)).1 ?_;have ZK:=ae ZM;have HA:=ae ZL;have aq:=ae hlk;clear ZM ZL hlk;obtain⟨W,z⟩:∃W:G,A (A (A w (N #[Z (T (Q b off Y)) n cap] 25)) (N #[.int I 0] 3)) (N #[Z (T (Q b off Y)) n cap] 25)=W:=⟨_,rfl⟩
 obtain⟨u,-,-,-,-⟩:=nb3 z;replace u:=u.out;have H:=ae z;clear z;have X:=ae u;clear u;have ZS:=ae (xN w (Z (T (Q b off Y)) n cap) 25 3);refine callsIn_of_wp_marks func80 rfl trivial ?_ rfl;simp only[ntmps80,MX,p6,J1,Nat.reduceAdd,Nat.reduceSub,NJ,NK,OH,NN,J2,LQ];gi_wp2_with (refine⟨trivial,?_⟩;gi_at_call 46;refine(kZ _ _ _).mono ?_;rintro e w' ⟨rfl,rfl⟩);rw[H.out] at ZS ⊢;clear H;have hsz:=ZS.size;obtain⟨ZP,ZQ⟩:=ZS.r;have ta:=ZS.a0;refine ji (F:=Fence.wide) rfl (by omega) (gf:=81) (lb:=#[.pointer (T (Q (J (U w)+1+1) 0 Y))]) rfl trivial (enters_of func81 (by kernel_rfl) rfl) (base:=J (U w)) (by omega)
  (nN w b off n cap (J (U w)+1+1) (3 - 1) f W HA hn1 hn ZK aq X ZS.a (by omega)) br (λ_=>rfl)
  (λg q=>ZV q (Q (J (U w)) 0 Y)=T (Z (T (Q b off Y)) n cap)/\ZV q (Q (J (U w)+1) 0 Y)=T (.int I 0)/\ZW q (Q (J (U w)+1) 0 Y)=ZB/\Hid (aR f g=-1)/\Hid (Below (J (U w)) w q))
  (λc g q=>c=.ret/\ZV q (Q (J (U w)+1) 0 Y)=T (.int I (aR f g))/\Hid (aR f g≠-1)/\Hid (Below (J (U w)) w q))
  (λs ZX B h o=>⟨(o.cell (p:=(Q (J (U w)) 0 Y)) (by show (J (U w))<J (U W);omega)).trans h.1,(o.cell (p:=(Q (J (U w)+1) 0 Y)) (by show (J (U w))+1<J (U W);omega)).trans h.2.1,(o.frozen (p:=(Q (J (U w)+1) 0 Y)) (by show (J (U w))+1<J (U W);omega)).trans h.2.2.1,h.2.2.2.1,h.2.2.2.2.trans (o.mono (by omega))⟩)
  (λc s ZX B h o=>⟨h.1,(o.cell (p:=(Q (J (U w)+1) 0 Y)) (by show (J (U w))+1<J (U W);omega)).trans h.2.1,h.2.2.1,h.2.2.2.trans (o.mono (by omega))⟩)
  ⟨ta,ZP,ZQ,rfl,X⟩
  (λx=>{ tmps:=#[.agg #[Z (T (Q b off Y)) n cap],.pointer (T (Q (J (U w)) 0 Y)),.pointer (T (Q (J (U w)+1) 0 Y)),.int I (x.1:Int),.int I (x.2:Int),.agg #[Z (T (Q b off Y)) n cap],.func (.func 81) #[] #[.pointer (T (Q (J (U w)+1+1) 0 Y))],.int I (x.1:Int),.int I (x.2:Int),undef,undef,undef,undef,undef,undef,undef,undef,undef,undef,undef,undef],defers:=[] }) ?assign ?body ?done ?stop
 case assign =>intro l x W K y;gi_wp2;exact y
 case body =>
  rintro l g x m ZJ ⟨R,t,D,E,j⟩ hlt hz;clear ZP ZQ ta;obtain⟨_,p1,_⟩:=(ZK.aa j ly).2 x.1 ZJ;have hx0:(0:Int)<=(x.1:Int):=by omega
  have hxn:(x.1:Int)<n:=by omega
  have ZN:=ae (vj (x:=x) E);have U1:=ae (Upd.setCell (P:=λk=>J (U w)<=k/\k<J (U W)) m (p:=(Q (J (U w)+1) 0 Y)) ⟨by show _<=_+1;omega,by show _+1<_;omega⟩ (.int I (x.1:Int)));have M:=ae (j.setCell (p:=(Q (J (U w)+1) 0 Y)) (by show _<=_+1;omega) (.int I (x.1:Int)));have L:=ae (AT m (Q (J (U w)+1) 0 Y) (.int I (x.1:Int)) (by rw[t];rfl));cases h3:((f x.1).H == 3) with
  |false =>
   have i:Hid (aR f (g++[x])=-1):=by show _=_;rw[ZN.out,eT (by intro h;rw[h.1] at h3;simp at h3)]
   gi_wp2;exact⟨Upd.refl _ _,R,t,D,i,j⟩
  |true =>
   by_cases h6:(60:Int)<=(x.2:Int)
   ·have i:Hid (aR f (g++[x])=(x.1:Int)):=by show _=_;rw[ZN.out,hU ⟨by simpa using h3,by omega⟩]
    gi_wp2;exact⟨U1,rfl,by rw[i.out];exact L,by show _≠_;rw[i.out];omega,M⟩
   ·have i:Hid (aR f (g++[x])=-1):=by show _=_;rw[ZN.out,eT (by intro h;omega)]
    gi_wp2;exact⟨Upd.refl _ _,R,t,D,i,j⟩
 case done =>rintro V ys m ZO rfl ⟨_,t,D,E,j⟩ y;have S:=ae ((KeepsOthers.setCell m (Q (J (U w)+1) 0 Y) (.int I (-1))).same V _ y rfl);have M:=ae (j.setCell (p:=(Q (J (U w)+1) 0 Y)) (by show _<=_+1;omega) (.int I (-1)));have L:=ae (AT m (Q (J (U w)+1) 0 Y) (.int I (-1)) (by rw[t];rfl));gi_wp2;refine⟨by simp,.inl ⟨_,_,rfl,run_takeDeferred S,?_⟩⟩;have C:=dq (n:=J (U W)) (ZT m (Q (J (U w)+1) 0 Y) (.int I (-1))) ZO (A9.1 S).1 (.deferred Y);have c:=(C.cell (p:=(Q (J (U w)+1) 0 Y)) (by show (J (U w))+1<J (U W);omega)).trans L;exact⟨.int I (-1),by simp[results,results80,go_sem,c],by rw[E.out],M.trans (C.mono (by omega))⟩
 case stop =>rintro V c g m ZO O ⟨rfl,t,E,j⟩ y;gi_wp2;refine⟨by simp,.inl ⟨_,_,rfl,run_takeDeferred y,?_⟩⟩;have C:=dq (n:=J (U W)) m ZO (A9.1 y).1 (.deferred Y);have c:=(C.cell (p:=(Q (J (U w)+1) 0 Y)) (by show (J (U w))+1<J (U W);omega)).trans t;exact⟨.int I (aR f g),by simp[results,results80,go_sem,c],by rw[sd O E.out],j.trans (C.mono (by omega))⟩
theorem pu (g:Nat->Bool)(n:Nat):aE g n=-1∨0<=aE g n:=by
 induction n with
 |zero=>exact .inl rfl
 |succ k b =>
  rw[aE];split;{split;{exact .inl rfl};{exact .inr (by omega)}};{exact b}
theorem Bm (i:Nat)(b:List (Nat × Nat)):bu i b=-1∨0<=bu i b:=by
 induction b generalizing i with
 |nil=>exact .inl rfl
 |cons x b f =>
  rw[bu];split;{exact f _};{exact .inr (by omega)}
theorem re (f:Nat->af)(b:List (Nat × Nat)):aR f b=-1∨0<=aR f b:=by
 induction b with
 |nil=>exact .inl rfl
 |cons x b g =>
  rw[aR];split;{exact .inr (by omega)};{exact g}
theorem oy (h:aE (ba f) n=-1):∀p,p<n->(f p).f<=200:=by
 intro p b;have h1:=dY h p b;simp only[ba,j5,kindOk] at h1;obtain⟨_,h2⟩:=h1;split at h2;{simp[aP] at h2;omega};{split at h2;{simp[aP] at h2;omega};{split at h2;{simp only[bT,j5,nX] at h2;omega};{cases h2}}}
theorem Bn (h:aE (ba f) n=-1):∀p,p<n->(f p).e.size<=maxLen:=by intro p b;have h1:=dY h p b;simp only[ba,av,j5,nX] at h1;unfold maxLen;omega
theorem jX (g:cG f n)(hn:1<=n):(aw f n).length<=n:=by
 have h:=(fG g n (n - 1) 0 (λ_=>ZB) (by omega) (by omega) rfl).num;have h2:=ze (lst f n (n - 1) 0 (λ_=>ZB)).1 n;have b:∀k,cnt (λ_=>ZB) k=0:=by
  intro k;induction k with
  |zero=>rfl
  |succ j i=>rw[cnt,i];rfl
 rw[b] at h;unfold aw;omega
structure GN (w:G)(b:Nat)(v0 v1 v2 v3:ZD):Prop where
 lt:b<J (U w)
 c0:ZV w (Q b 0 Y)=T v0
 c1:ZV w (Q b 1 Y)=T v1
 c2:ZV w (Q b 2 Y)=T v2
 c3:ZV w (Q b 3 Y)=T v3
theorem Ey (w:G)(h g f b:ZD)(t:ZI):GN (A w (N #[h,g,f,b] t)) (J (U w)) h g f b:=⟨by simp,by simp,by simp,by simp,by simp⟩
theorem vm (a:Option Addr)(n cap:Nat)(f:Nat->af)(w:G)(hn:(n:Int)<=1048576)(ZN:SlDeed w a n f)(M:(n:Int)<=cap)(E:∀i,i<n->bJ (f i))(V:Tab w):Calls Pg 45 #[.agg #[Z a n cap]] w λe w'=>e=ZG (.tuple #[.int I (dl f n).1,.int I (dl f n).2])/\Below (J (U w)) w w':=by
 have ZJ:=ae ZN;have HM:=ae E;have S:=ae V;clear ZN E V;have H:=ae ((q9 w).alloc ly (N #[Z a n cap] 25));have R:ZV (A w (N #[Z a n cap] 25)) (Q (J (U w)) 0 Y)=T (Z a n cap):=by simp
 obtain⟨c1,c2,q⟩:∃c1 c2,dl f n=(c1,c2):=⟨_,_,rfl⟩
 rw[q];have B:=ae q;clear q;by_cases ZL:(n:Int)=0
 ·have g:c1=1/\c2=0:=by have:=B.out;unfold dl at this;rw[hU (.inl (by omega))] at this;simp only[KJ] at this;omega
  clear B;obtain⟨g,o⟩:=g;subst g o;obtain rfl:n=0:=by omega
  go_enter func45,ntmps45;go_wp2;go_ret2;exact⟨rfl,H⟩
 by_cases h4:(400:Int)<(n:Int)
 ·have g:c1=1/\c2=0:=by have:=B.out;unfold dl at this;rw[hU (.inr (by omega))] at this;simp only[KJ] at this;omega
  clear B;obtain⟨g,o⟩:=g;subst g o;have ZK:((n:Int) == 0)=ZB:=by simpa using ZL
  go_enter func45,ntmps45;go_wp2;go_ret2;exact⟨rfl,H⟩
 have x:Hid ((if aE (ba f) n≠-1 then ((2:Int),aE (ba f) n) else if aE (λp=>aN f p p) n≠-1 then (3,aE (λp=>aN f p p) n) else if bu 0 (aw f n)≠-1 then (4,bu 0 (aw f n)) else if aR f (aw f n)≠-1 then (5,aR f (aw f n)) else (0,0))=(c1,c2)):=by have:=B.out;unfold dl at this;rw[eT (by omega)] at this;exact this
 clear B;obtain⟨b,off,rfl,D⟩:=ZJ.resolve_left (by omega);have ZQ:=ae D;have ZK:((n:Int) == 0)=ZB:=by simpa using ZL
 clear ZJ D;have t:(n:Int)<=400:=by omega
 have O:=ae (H.alloc (by simp) (N #[.func (.func 77) #[] #[],.func (.func 78) #[] #[],.func (.func 79) #[] #[],.func (.func 80) #[] #[]] 141));go_enter func45,ntmps45;go_wp2;have K:J (U (A w (N #[Z (T (Q b off Y)) n cap] 25)))=J (U w)+1:=by simp
 have r:=ae (Ey (A w (N #[Z (T (Q b off Y)) n cap] 25)) (.func (.func 77) #[] #[]) (.func (.func 78) #[] #[]) (.func (.func 79) #[] #[]) (.func (.func 80) #[] #[]) 141);rw[K] at r;have ZM:=(((cM (J (U w)+1) (A w (N #[Z (T (Q b off Y)) n cap] 25))).alloc (by omega) (N #[.func (.func 77) #[] #[],.func (.func 78) #[] #[],.func (.func 79) #[] #[],.func (.func 80) #[] #[]] 141)).cell (p:=(Q (J (U w)) 0 Y)) (gM _)).trans R;clear K R H;generalize World.alloc (World.alloc w _) _=W at O r ZM ⊢;have s:J (U w)+1<J (U W):=r.lt;go_loopw [21] (λi wr=>∃k:Nat,k<=4/\i=.int I k/\Hid (1<=k->aE (ba f) n=-1)/\Hid (2<=k->aE (λp=>aN f p p) n=-1)/\Hid (3<=k->bu 0 (aw f n)=-1)/\Hid (4<=k->aR f (aw f n)=-1)/\Hid (Below (J (U W)) W wr)) (λi _=>4 - (intOf i).toNat);case atStart=>exact⟨0,by omega,rfl,λh=>by omega,λh=>by omega,λh=>by omega,λh=>by omega,cM _ _⟩
 case round =>
  obtain⟨k,hk,rfl,j,ZS,ZO,H4,l⟩:=hrel;have k2:=(l.cell (p:=(Q (J (U w)) 0 Y)) (by show (J (U w))<_;omega)).trans ZM;have m:=ae (O.trans (l.mono O.size));by_cases hlt:k<4
  ·rcases(show(True/\k=0)∨(True/\k=1)∨(True/\k=2)∨(True/\k=3) by rcases(show k=0∨k=1∨k=2∨k=3 by omega) with h|h|h|h<;>simp[h]) with ⟨M0,rfl⟩|⟨M1,rfl⟩|⟨M2,rfl⟩|⟨M3,rfl⟩
   all_goals
    first
     |(guard_hyp M0;have P:=(l.cell (p:=(Q (J (U w)+1) 0 Y)) s).trans r.c0;have y:=ae (rU b off n cap f _ t (ZQ.aa m ly) M HM (S.aa m S.1));have ZX:=ae (pu _ _:aE (ba f) n=-1∨0<=aE (ba f) n);obtain⟨X,hX⟩:∃X,X=aE (ba f) n:=⟨_,rfl⟩)
     |(guard_hyp M1;have P:=(l.cell (p:=(Q (J (U w)+1) 1 Y)) s).trans r.c1;have y:=ae (r9 b off n cap f _ t (ZQ.aa m ly) (Bn (j (by omega))));have ZX:=ae (pu _ _:aE (λp=>aN f p p) n=-1∨0<=aE (λp=>aN f p p) n);obtain⟨X,hX⟩:∃X,X=aE (λp=>aN f p p) n:=⟨_,rfl⟩)
     |(guard_hyp M2;have P:=(l.cell (p:=(Q (J (U w)+1) 2 Y)) s).trans r.c2;have y:=ae (se b off n cap f _ (dI (j (by omega))) (by omega) t (ZQ.aa m ly) (oy (j (by omega))) (by have:=jX (dI (j (by omega))) (n:=n) (by omega);omega));have ZX:=ae (Bm _ _:bu 0 (aw f n)=-1∨0<=bu 0 (aw f n));obtain⟨X,hX⟩:∃X,X=bu 0 (aw f n):=⟨_,rfl⟩)
     |(guard_hyp M3;have P:=(l.cell (p:=(Q (J (U w)+1) 3 Y)) s).trans r.c3;have y:=ae (vl b off n cap f _ (dI (j (by omega))) (by omega) t (ZQ.aa m ly) (oy (j (by omega))));have ZX:=ae (re _ _:aR f (aw f n)=-1∨0<=aR f (aw f n));obtain⟨X,hX⟩:∃X,X=aR f (aw f n):=⟨_,rfl⟩)
    rw[<-hX] at y ZX;have C:=ae hX;clear hX;go_wp2_with fail;refine y.mono ?_;rintro e w2 ⟨rfl,L⟩;have G1:=ae (m.trans (L.mono m.size));have u:=ae (l.trans (L.mono l.size));clear L y;by_cases z:X=-1
    ·have ZP:=ae (C.symm.trans z)
     have hd:decide (0<=X)=ZB:=by rw[z];rfl
     clear z;go_wp2;first
      |(guard_hyp M0;exact⟨⟨0+1,by omega,by go_num,λ_=>ZP,λh=>by omega,λh=>by omega,λh=>by omega,u⟩,by simp[intOf]⟩)
      |(guard_hyp M1;exact⟨⟨1+1,by omega,by go_num,λ_=>j (by omega),λ_=>ZP,λh=>by omega,λh=>by omega,u⟩,by simp[intOf]⟩)
      |(guard_hyp M2;exact⟨⟨2+1,by omega,by go_num,λ_=>j (by omega),λ_=>ZS (by omega),λ_=>ZP,λh=>by omega,u⟩,by simp[intOf]⟩)
      |(guard_hyp M3;exact⟨⟨3+1,by omega,by go_num,λ_=>j (by omega),λ_=>ZS (by omega),λ_=>ZO (by omega),λ_=>ZP,u⟩,by simp[intOf]⟩)
    ·have g:=x.out
     (try rw[eT (by rw[j.out (by omega)];simp)] at g)
     (try rw[eT (by rw[ZS.out (by omega)];simp)] at g)
     (try rw[eT (by rw[ZO.out (by omega)];simp)] at g)
     rw[hU (by rw[<-C.out];exact z),<-C.out] at g;simp only[KJ] at g;have hge:0<=X:=ZX.resolve_left z;obtain⟨g,o⟩:=g;clear x z ZX;subst g o;go_wp2;go_ret2;exact⟨rfl,G1⟩
  ·obtain rfl:k=4:=by omega
   have g:c1=0/\c2=0:=by have:=x.out;rw[eT (by rw[j.out (by omega)];simp),eT (by rw[ZS.out (by omega)];simp),eT (by rw[ZO.out (by omega)];simp),eT (by rw[H4.out (by omega)];simp)] at this;simp only[KJ] at this;omega
   obtain⟨g,o⟩:=g;clear x;subst g o;go_wp2;go_ret2;exact⟨rfl,m⟩
